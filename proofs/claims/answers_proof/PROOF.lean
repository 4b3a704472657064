import PyProof.Rows.All
import Wide.FinOn
import PyProof.EqAt
import PyProof.EqKinds
import PyProof.TupleCall
import KE.BitLaws
import Open.SpecLaws
import KE.OsGo
import KE.KMinKey
import Open.Tops
import PyProof.FactsAll.range_2
import PyProof.Rows.CallKwBuiltin
import PyProof.WalkInts
import PySem.Builtin.Int.W1All
import PySem.Challenge.RW_gridtalk_s01_answers
set_option Elab.async false
set_option linter.all false
set_option maxRecDepth 100000
set_option maxHeartbeats 0
set_option bootstrap.genMatcherCode false
set_option compiler.extract_closed false
noncomputable section
structure PySem.W.Fast:Prop where(tw7557505098631575932 tw7094134620152157216 tw2304740727251192864 tw3717612361551592480 tw14211740681099286592 tw17961269342264846432 tw1927948154439581824 tw10149327745039266048 tw10228779937140883712 tw13960588540856339776 tw9344248196798510432 tw10599642019480595808 tw10745082630088995360 tw12762447281504364096 tw5231711979948379808 tw9021470552000291520 tw162728445131443904 tw11775991916041775840 tw8780580591817426688 tw12172538722906105664 tw15652315349362347201 tw772295957962369281 tw13158529406247741761 tw2502077175848198497 tw5729959422703613409 tw8538389014497166913 tw3635379343282727489 tw11398313911107617377 tw1938039746568639329 tw963120382871871361 tw10952065632066337697 tw217030428703970273 tw2782827519916306530 tw15643436098871311490 tw14180612725760519362 tw8966599872757917954 tw15020540218754031874 tw9152093405428670850 tw8616894863740896674 tw11174995118255759906 tw14464251501699416706 tw1727099155970368226 tw14804806971604124450 tw3690839369717324706 tw11249014612567017795 tw12276917197914599747 tw18279849474716127811 tw1125640360462268995 tw16763602184915476131 tw14923767020876633827 tw16103346614638117763 tw17055630223972163523 tw1759698642268953571 tw1134747475375865860 tw2612163200817180804 tw15850468928739134660 tw11135705940422820164 tw16680445312720843236 tw9684998290117824132 tw4827208496638483076 tw15805182879120723620 tw13149180901190058948 tw12744616169305885668 tw8045237522937015301 tw10676299044785712165 tw9986370149931191365 tw17151270558281769061 tw17585804909847636133 tw17696670657935500549 tw803297281017781669 tw2792635497448198885 tw17074030534598061957 tw9371170972357556197 tw11151525766667981830 tw4327071449473434726 tw18428880523726104774 tw17108057362506090822 tw10165440311652383238 tw15082138602189343302 tw10724202501219924614 tw12995242162260889382 tw10557783720335203110 tw123215555978828678 tw1855921890003292102 tw2501268429107644358 tw9198266554633347014 tw4065562594956859366 tw13386360725083722087 tw3222375529520530855 tw12557206436188416423 tw16357344388422627783 tw7737438794631894567 tw10865557513515820711 tw4113637664939708135 tw12719363054247532295 tw3029755394854795079 tw2181591461174738791 tw15637078425787181031 tw3760900726120041576 tw4481687888946132104 tw14525622822682365224 tw9387955321811082536 tw4635066731456808232 tw12087740034605217096 tw17966681914239791464 tw10731763408457797128 tw17007666401970118312 tw4932487399286265961 tw6610909893921907881 tw3197578116679771305 tw56207604750345417 tw12452345243393157417 tw4430738599813742953 tw12366499314555891209 tw8515148584265142825 tw16199224403511627465 tw12508719515173701321 tw7871698869974565609 tw12951209208877744873 tw12446440226302059369 tw2747079306279043977 tw10493922825922120681 tw2992190430032776234 tw16164240531374319690 tw6878605623602353290 tw7100359735676021994 tw1873419347739072778 tw15095133707111724458 tw11267988604918019594 tw12932468551545555530 tw15591284824620886698 tw17051663174267105226 tw3576002266171123755 tw14626639627638415467 tw7727540402022469771 tw6984388511449011371 tw4206921922279139531 tw8042283600486799563 tw15714073174774908203 tw14456241941321589035 tw12636388455486280107 tw11360055223058484683 tw6590589384691593739 tw2676676114380936715 tw3477949477143215755 tw13071992965114451691 tw17046819390900217739 tw3012495302974282635 tw9854603192259353547 tw744970043287972843 tw6488882531609969708 tw7552797386928923724 tw14209264347919171660 tw6278206039105458252 tw129097438289864812 tw3611391665166282924 tw18156054284581942508 tw15823059674854338860 tw1571224060858419500 tw8880338018275248460 tw4656279425545969036 tw729406383148793228 tw16913861627729166860 tw9325933373504443916 tw15878521264734075436 tw9919024243364421260 tw13707351767589205676 tw14923373574054230700 tw16852526244308689644 tw15957378769067663084 tw8002443870031999724 tw1867342554425334668 tw13397548081493348461 tw1893675498127986797 tw8648613075627880813 tw929398144125355373 tw7663896548823562605 tw9076862825429530093 tw17956002894381995533 tw3663786285383206477 tw18197222098017406541 tw6315697212687100621 tw11203874306966213357 tw4315835376783140621 tw7069059938558731021 tw12221250693531077421 tw14308408857210894125 tw8095270285739348845 tw2714046402236831629 tw10847506018581628845 tw12422423965259951021 tw8657280400149352397 tw1099565511020912654 tw8039029028327170350 tw18174046851737269550 tw11894454466263481774 tw17206761549139476142 tw3238627092057032590 tw3536457133576298382 tw11833748091710028686 tw14406994671616065583 tw9813726821759478927 tw12553035343857052815 tw11500348665787368591 tw1265380300046326191 tw15240285524030035375 tw16710527307200945807 tw10049297981688530607 tw15939664728748983215 tw15717510160485935055 tw18292347621519416271 tw17450664420304133103 tw18306057716219256815 tw12212427212323674095 tw13284583541537476720 tw17560974092541489328 tw12277205406326685904 tw2931602505437453648 tw2213001923084232048 tw9104626155876523536 tw16286174445013677712 tw15877426564003711632 tw16266695064390352624 tw11009574326394925040 tw3667841197101951121 tw4419165708776492177 tw16662216786584949937 tw4747686119086609585 tw11612049394399218897 tw4868403406450246001 tw10829737402262301137 tw10782283032966364721 tw15909005530474545745 tw15703010470994588337 tw11348445346194441137 tw9445000708081862609 tw15673249408579647441 tw9705443550274734098 tw8389211745444653202 tw1791890682415244466 tw2481415021808782738 tw4723375581106988466 tw16325558745887740402 tw11468029971723129490 tw6835497185774675634 tw11553386096881069842 tw10976590331052035954 tw13386745334533034898 tw8778061996166815795 tw10594638441629655155 tw8072084182216414323 tw10950380519045861555 tw10436690945926194355 tw1484055323281350867 tw3148112784957768979 tw2617349124284476819 tw14405700101591042451 tw10460117027053142451 tw13803101032175473139 tw3986731870835043859 tw1413674963237467699 tw9090276906847575667 tw4368033443706674899 tw13778918611585828691 tw6574718327238566771 tw15405490695547981779 tw12340916817383208947 tw14802969342010532180 tw2840464954975999380 tw14837695793232729492 tw12962518144647273908 tw18114451168305685076 tw12707834089407863636 tw12630061582472946580 tw836860991731688372 tw9356685577738933204 tw1488595512512724021 tw11317835336783403061 tw7951935285327600021 tw5069944179217414549 tw10565130766950202773 tw1232354647921976757 tw9611066464919705205 tw14147538581839393525 tw18120779286705751829 tw11083220183112784757 tw9072525051373002613 tw18386069739275276374 tw1150669032008342614 tw12816072288555325846 tw3769548435353016822 tw2955419074588922358 tw12715526145340399126 tw4967706083625981558 tw14680127143043976854 tw8969883750615156502 tw5686645624345202518 tw17206338850644076470 tw17278082201646881815 tw8881647289303838743 tw16460143971594257559 tw356939037027618967 tw9341778537466696919 tw10207906386122855671 tw4482610030030161335 tw4930774459572117943 tw11398700778437063159 tw11182055173029295607 tw5752975506476152375 tw3772648522445932087 tw9823350948209463991 tw3784395549489771223 tw13246661343949371159 tw5054430699790624631 tw8564363129776513975 tw7824526838530687927 tw16105699891550573592 tw5463390731214846072 tw4237383097267161240 tw3099253870753621240 tw17441281445113555192 tw13735612145392585176 tw8293438034340922840 tw699241650713431544 tw11452975281259317816 tw8059269883830106680 tw17358367942798215800 tw14151781403421372088 tw2403318076246511352 tw9161445729760683800 tw7245112196512630584 tw12527924102337253208 tw17665124846519755768 tw10970895176056738808 tw12076712150121216057 tw4519565942438163641 tw13874857298216692921 tw14494331600450629849 tw11479926833724325113 tw5157250812029450521 tw1327634200053738873 tw16631850893522284025 tw15740586282282104313 tw2549627388344435193 tw11515574391001569849 tw11996582498362980953 tw1429963113395411641 tw6818694505388467065 tw11695560564068476889 tw3347381888310340601 tw17108891421948660858 tw13459267624785627290 tw14582458663049828602 tw18296369881922725178 tw17114849684907686554 tw13887798044926215930 tw7815986525392655098 tw5630454014583566106 tw674192079336719579 tw15465449658016399675 tw2058493285544217083 tw14679153507611785787 tw65308459260708443 tw3857368110232326811 tw10859260259344280283 tw7190159527919032091 tw3641475010132902747 tw12170614146802540379 tw8843727089230721148 tw7776761255968032156 tw8183534606449151580 tw1337150676441276060 tw9777193569832034972 tw12972271520072706812 tw11556225559642394396 tw2510108129617879964 tw2165095191747969020 tw16083181169615195132 tw16473777242729309180 tw13850679168688409661 tw4116388332818422877 tw11684449596704350301 tw10758910095393245437 tw5655927845533494621 tw14251283424231015837 tw7422259852056533565 tw4209396026970499037 tw14268118721350850590 tw10839483950179303582 tw14239721544006780254 tw5498256651176479294 tw9244652383060349502 tw11161481882136810174 tw3310951307935602494 tw10089144199135223646 tw2349317462049360766 tw5524145072413885310 tw14422026319713615774 tw14762900987404061630 tw16450206868743602303 tw4621070429695221951 tw4044755829291586815 tw7913363154643581247 tw4373467103854389599 tw1862162431665314143 tw16598607021912502655 tw4298478152111731295 tw12856009663888061055 tw14886799266439311007 tw14941316229309102815 tw380366964254031775 tw4246585784664191967 tw12277562117393749025 tw11446352987727697121 tw4603007298525992513 tw3260293421289781889 tw17595039178420199874 tw14643781228159493859 tw2459005186233256263 tw1165677962945602665 tw13387298635396921835 tw5141156964285956590 tw6204886785343598639 tw6189256258012255407 tw9050868815875593104 tw17083079076435455729 tw10878912795669255764 tw9814904484966870900 tw2082877451307457877 tw3962707930274104246 tw7653517554866153340 tw2829729062132841950 tw2566903631332195775:True)
open_shared topA for PySem.Challenge.pw_gridtalk_s01_answers leaving 0
open List (range mem_filter filterMap_cons mem_cons_self mem_cons_of_mem mem_cons mem_append mem_append_right size_toArray length_cons map_cons length_map append_nil nodup_cons replicate length length_take getElem?_append_right getElem?_append_left getElem?_map getElem?_take_of_lt mem_of_getElem? length_append length_drop all_cons any_cons reverse_cons replicate_succ flatten_cons foldl append_assoc foldl_cons nil_append map_nil getD_eq_getElem?_getD lookup_cons getElem?_eq_none mem_map all_eq_true find?_cons map_congr_left length_eq_zero_iff map_map length_range range_succ map_append flatMap_cons flatMap_append flatMap_nil drop_drop getElem?_drop getElem?_range map getElem?_eq_getElem foldl_append ext_getElem? take_length zipWith mem_singleton map_drop map_take not_mem_nil pairwise_cons)
open Nat (lt_of_lt_of_le lt_irrefl ne_of_lt le_trans le_of_lt zero_le le_of_eq succ_mul mul_comm lt_trans le_add_right lt_of_le_of_lt testBit_xor lor land xor xor_lt_two_pow mod_eq_of_lt mul_le_mul_right div_lt_of_lt_mul mod_lt mul_pos div_add_mod mul_succ mul_le_mul)
open Int (natCast_nonneg toNat_natCast add_assoc min_assoc min_self min_eq_right add_emod mul_emod toNat natCast_mul)
open BitVec (xor_comm twoPow eq_of_getLsbD_eq getLsbD_shiftLeft msb_eq_getLsbD_last getLsbD_ushiftRight getLsbD_of_ge getLsbD_xor getLsbD_one getLsbD_ofNat getLsbD eq_of_toNat_eq toNat_ofNat toNat_xor isLt zero_xor)
open Bool (and_eq_true false_eq_true noConfusion)
open Option (isSome_iff_exists map_eq_some_iff)
open PySem.W (instObj methodObj lookIn plainGet hasDictIn findIn handedIn plainGet_of isFn plainOver takerIn makesIn emptyDict keepIn callWith_K fnOf codeIn WRecords WalkOS nsIn mg_of Frag)
open PySem.F (plainAttrs_list slot_list_extend type_list_extend)
open UInt64 (toBitVec_shiftRight toBitVec_xor)
abbrev VS0:=PySem.Value->PySem.Shared->Prop
abbrev LO0:=List (PySem.Addr×PySem.Obj)
local macro_rules | `(tactic| lia) => `(tactic| first | lia (splits := 9) | omega)
section
open PySem PySem.Spec PyProof.Rows
namespace L2
abbrev Key:=Sum Int Str
def Jb:Key->Value->Bool
 | .inl k,v=>Value.isInt k v
 | .inr x,v=>Value.isStrOf x v
def keyH (w:World):Key->Int
 | .inl k=>hashInt k
 | .inr x=>hashStr w x
theorem gG:∀{k:Key}{v:Value},Jb k v=true->(∃i t,k=Sum.inl i/\v=Value.int i t)\/(∃x t,k=Sum.inr x/\v=Value.str x t)
 | .inl i,v,h=>by
  obtain⟨t,e⟩:=Value.isInt_shape (k:=i) (v:=v) h;exact .inl ⟨i,t,rfl,e⟩
 | .inr x,v,h=>by
  obtain⟨t,e⟩:=Value.isStrOf_shape (x:=x) (v:=v) h;exact .inr ⟨x,t,rfl,e⟩
theorem Fx (i:Int)(t:Tok):Jb (.inl i) (.int i t)=true:=by simp[Jb,Value.isInt]
theorem keyIs_str (x:Str)(t:Tok):Jb (.inr x) (.str x t)=true:=by simp[Jb,Value.isStrOf]
theorem key_ll (a b:Int):decide ((Sum.inl a:Key)=Sum.inl b)=(a == b):=by
 by_cases e:a=b
 ·subst e;simp
 ·have h:¬(Sum.inl a:Key)=Sum.inl b:=λq=>e (Sum.inl.inj q);rw[decide_eq_false h];exact(beq_eq_false_iff_ne.mpr e).symm
theorem key_rr (a b:Str):decide ((Sum.inr a:Key)=Sum.inr b)=decide (a=b):=by
 by_cases e:a=b
 ·subst e;simp
 ·have h:¬(Sum.inr a:Key)=Sum.inr b:=λq=>e (Sum.inr.inj q);rw[decide_eq_false h,decide_eq_false e]
theorem key_lr (a:Int)(b:Str):decide ((Sum.inl a:Key)=Sum.inr b)=false:=decide_eq_false (λq=>nomatch q)
theorem key_rl (a:Str)(b:Int):decide ((Sum.inr a:Key)=Sum.inl b)=false:=decide_eq_false (λq=>nomatch q)
noncomputable def oV (prog:Program)(w:World):PySem.KeyKind prog w Key where
 is:=Jb
 hash:=keyH w
 inj:=λv a b ha hb=>by
  rcases gG ha with⟨i,t,rfl,rfl⟩|⟨x,t,rfl,rfl⟩
  ·rcases gG hb with⟨j,u,rfl,e⟩|⟨y,u,rfl,e⟩
   ·injection e with e1 _;rw[e1]
   ·exact nomatch e
  ·rcases gG hb with⟨j,u,rfl,e⟩|⟨y,u,rfl,e⟩
   ·exact nomatch e
   ·injection e with e1 _;rw[e1]
 byValue:=λk v h=>by
  rcases gG h with⟨i,t,rfl,rfl⟩|⟨x,t,rfl,rfl⟩<;>rfl
 pyHash:=λhv h=>by
  rcases gG hv with⟨i,t,rfl,rfl⟩|⟨x,t,rfl,rfl⟩
  ·exact wpAny_pyHash_int h
  ·exact wpAny_pyHash_str h
 eqBool:=λhu hv h=>by
  rcases gG hu with⟨i,t,rfl,rfl⟩|⟨x,t,rfl,rfl⟩
  ·rcases gG hv with⟨j,u,rfl,rfl⟩|⟨y,u,rfl,rfl⟩
   ·rw[key_ll] at h;exact wpAny_eqBool_int h
   ·rw[key_lr] at h;exact SeqAt.EqAt.int_str i t y u _ _ _ _ h
  ·rcases gG hv with⟨j,u,rfl,rfl⟩|⟨y,u,rfl,rfl⟩
   ·rw[key_rl] at h;exact SeqAt.EqAt.str_int x t j u _ _ _ _ h
   ·rw[key_rr] at h;exact wpAny_eqBool_str h
 «strs»:=λk x t v h=>by
  rcases gG h with⟨i,u,rfl,e⟩|⟨y,u,rfl,e⟩
  ·exact nomatch e
  ·injection e with e1 _;subst e1;cases v<;>rfl
theorem Yj (prog:Program)(w:World)(i:Int)(t:Tok):(oV prog w).is (.inl i) (.int i t)=true:=Fx i t
theorem Yk (prog:Program)(w:World)(x:Str)(t:Tok):(oV prog w).is (.inr x) (.str x t)=true:=keyIs_str x t
end L2
namespace L2
inductive V where
 |non|bl (b:Bool)|int (i:Int)|str (x:Str)|Fy (b:Array UInt8)|flt (b:UInt64)|ref (a:Addr)|ty (n:String)
 deriving DecidableEq
def RelV:V->Value->Prop
 | .non,u=>u=Value.none
 | .bl b,u=>u=Value.bool b
 | .int i,u=>∃t,u=Value.int i t
 | .str x,u=>∃t,u=Value.str x t
 | .Fy b,u=>∃t,u=Value.bytes b t
 | .flt b,u=>∃t,u=Value.float b t
 | .ref a,u=>u=Value.ref a
 | .ty n,u=>u=Value.type n
abbrev Vals:List V->List Value->Prop:=Paired RelV
theorem Vals.length {xs:List V}{us:List Value}(r:Vals xs us):xs.length=us.length:=Paired.length r
theorem Vals.get:∀{xs:List V}{us:List Value}{i:Nat}{x:V},Vals xs us->xs[i]? =some x->∃u,us[i]? =some u/\RelV x u
 |_,_,_,_,.nil,e=>by simp at e
 |_,_,0,_,.cons r _,e=>by simp at e;subst e;exact⟨_,rfl,r⟩
 |_,_,i+1,x,.cons _ t,e=>by
  obtain⟨u,h1,h2⟩:=Vals.get (i:=i) (x:=x) t (by simpa using e);exact⟨u,by simpa using h1,h2⟩
theorem Vals.set {x:V}{u:Value}(r:RelV x u):∀{xs:List V}{us:List Value} (i:Nat),Vals xs us->Vals (xs.set i x) (us.set i u)
 |_,_,_,.nil=>.nil
 |_,_,0,.cons _ t=>.cons r t
 |_,_,i+1,.cons q t=>.cons q (Vals.set r i t)
theorem Vals.append:∀{xs ys:List V}{us ws:List Value},Vals xs us->Vals ys ws->Vals (xs++ys) (us++ws)
 |_,_,_,_,.nil,s=>s
 |_,_,_,_,.cons r t,s=>.cons r (Vals.append t s)
theorem Vals.take:∀{xs:List V}{us:List Value} (n:Nat),Vals xs us->Vals (xs.take n) (us.take n)
 |_,_,0,_=>.nil
 |_,_,_+1,.nil=>.nil
 |_,_,n+1,.cons r t=>.cons r (Vals.take n t)
theorem Vals.drop:∀{xs:List V}{us:List Value} (n:Nat),Vals xs us->Vals (xs.drop n) (us.drop n)
 |_,_,0,r=>r
 |_,_,_+1,.nil=>.nil
 |_,_,n+1,.cons _ t=>Vals.drop n t
def mK:Option V->Option Value->Prop
 |some v,some u=>RelV v u
 |none,none=>True
 |_,_=>False
def KV {κ:Type}:List (κ×V)->List (κ×Value)->Prop:=Paired λ(p:κ×V) (q:κ×Value)=>p.1=q.1/\RelV p.2 q.2
noncomputable def kV:Key->V
 | .inl i=>.int i
 | .inr x=>.str x
inductive HO where
 |aB (xs:List V)
 |tup (xs:List V)
 |dK (kvs:List (Key×V))|dT (kvs:List (List Key×V))
 |set (S:Int->Bool) (n:Nat)
 |ins (C dx:Addr) (fs:List (Str×V))
 |own (x:Addr)
 |xd (fs:List (Str×V))
 |met (f x:Addr)
 |rng (lo hi:Int)
 |j4 (o:Obj) (u:HO)
 |U7 (ps:Array Value)
 |ext (φ:Heap->Prop)
abbrev Hp:=Addr->Option HO
def aN (H:Hp)(a:Addr)(o:HO):Hp:=λb=>if b=a then some o else H b
theorem ao {H:Hp}{a:Addr}{o:HO}:aN H a o a=some o:=by unfold aN;rw[if_pos rfl]
theorem aO {H:Hp}{a b:Addr}{o:HO}(h:b≠a):aN H a o b=H b:=by unfold aN;rw[if_neg h]
theorem oW {H:Hp}{a:Addr}{o u:HO}:aN (aN H a o) a u=aN H a u:=by
 funext b;unfold aN;split<;>rfl
theorem vg {H:Hp}{a b:Addr}{o u:HO}(h:H a=some o)(h':H b=some u)(d:o≠u):a≠b:=by
 intro e;subst e;rw[h] at h';exact d (Option.some.inj h')
theorem aW {H:Hp}{a b:Addr}{o:HO}(h:H a=some o)(h':H b=none):a≠b:=by
 intro e;subst e;rw[h] at h';cases h'
section
variable (P:Program)(w:World)
def iH (H:Hp)(h:Heap)(a:Addr):HO->Prop
 | .aB xs=>xs.length<=sizeLine/\∃(its:List Value) (n:Nat),Vals xs its/\h.get? a=some {cls:=.type "list",data:=.seq its.toArray n}
 | .tup xs=>xs.length<=sizeLine/\∃its:List Value,Vals xs its/\IsTup h a its.toArray
 | .dK kvs=>kvs.length<=sizeLine/\(a == sysModules)=false/\∃vs,KV kvs vs/\h.DictOf (oV P w) a vs
 | .dT kvs=>kvs.length<=sizeLine/\(a == sysModules)=false/\∃xs:List (List Key×Addr×Value),
   Paired (λ(p:List Key×V) (q:List Key×Addr×Value)=>p.1=q.1/\H q.2.1=some (.tup (p.1.map kV))/\RelV p.2 q.2.2) kvs xs/\
   ∃o es ep,h.get? a=some o/\o.ExactDict/\o.data=.dict es ep/\es.toList=xs.map (entryOfKey (tupleKind (oV P w)))/\(xs.map (·.1)).Nodup
 | .set S n=>h.SetOf (intKind P w) a S n
 | .ins C dx fs=>H dx=some (.own a)/\fs.length<=1000/\dx≠a/\h.get? a=some (instObj C dx)/\
   ∃mA,h.Ns1 dx mA/\(∀f,mK (fs.lookup f) (mA f))/\PySem.Within mA (fs.map (·.1))
 | .own _=>∃o,h.get? a=some o
 | .xd fs=>∃mA,h.Ns1 a mA/\∀f,mK (fs.lookup f) (mA f)
 | .rng lo hi=>∃t u v,h.get? a=some {cls:=.type "range",data:=.fields #[.int lo t,.int hi u,.int 1 v]}
 | .j4 o u=>h.get? a=some o/\iH H h a u
 | .U7 ps=>h.get? a=some {cls:=.none,data:=.fields ps}
 | .met f x=>h.get? a=some (methodObj (.ref f) (.ref x))
 | .ext φ=>φ h/\(∃o,h.get? a=some o)/\∀h1 h2:Heap,φ h1->(∀o,h1.get? a=some o->h2.get? a=some o)->φ h2
def ji (H:Hp)(h:Heap):Prop:=∀a o,H a=some o->iH P w H h a o
end
section
variable {P:Program}{w:World}{H Z:Hp}{h h':Heap}{a:Addr}{o:HO}
theorem iH.lt (x:iH P w H h a o):a<h.objs.size:=by
 cases o with
 |aB xs=>obtain⟨_,_,_,_,e⟩:=x;exact Heap.lt_size e
 |tup xs=>obtain⟨_,_,_,p⟩:=x;exact p.lt
 |dK kvs=>obtain⟨_,_,_,_,o,_,_,e,_⟩:=x;exact Heap.lt_size e
 |dT kvs=>obtain⟨_,_,_,_,o,_,_,e,_⟩:=x;exact Heap.lt_size e
 |set S n=>obtain⟨o,_,_,_,e,_⟩:=x;exact Heap.lt_size e
 |ins C dx fs=>obtain⟨_,_,_,e,_⟩:=x;exact Heap.lt_size e
 |own y=>obtain⟨_,e⟩:=x;exact Heap.lt_size e
 |xd fs=>obtain⟨_,⟨_,_,_,e,_⟩,_⟩:=x;exact Heap.lt_size e
 |rng lo hi=>obtain⟨_,_,_,e⟩:=x;exact Heap.lt_size e
 |j4 ob u=>obtain⟨e,_⟩:=x;exact Heap.lt_size e
 |U7 ps=>exact Heap.lt_size (show h.get? a=some _ from x)
 |met f y=>exact Heap.lt_size (show h.get? a=some _ from x)
 |ext φ=>obtain⟨_,⟨_,e⟩,_⟩:=x;exact Heap.lt_size e
theorem Paired.mapP {α β:Type}{F G:α->β->Prop}:∀{l₁:List α}{l₂:List β},Paired F l₁ l₂->(∀a b,F a b->G a b)->Paired G l₁ l₂
 |_,_,.nil,_=>.nil
 |_,_,.cons r t,f=>.cons (f _ _ r) (Paired.mapP t f)
theorem iH.stay (x:iH P w H h a o)(k:∀b u,(b=a\/H b=some (.own a))->h.get? b=some u->h'.get? b=some u)
  (ho:∀b,H b=some (.own a)->Z b=some (.own a)) (ht:∀b xs,H b=some (.tup xs)->Z b=some (.tup xs)):iH P w Z h' a o:=by
 induction o with
 |aB xs=>obtain⟨z,its,n,r,e⟩:=x;exact⟨z,its,n,r,k _ _ (.inl rfl) e⟩
 |tup xs=>obtain⟨z,its,r,ob,e,c⟩:=x;exact⟨z,its,r,ob,k _ _ (.inl rfl) e,c⟩
 |dK kvs=>obtain⟨z,y,vs,r,ob,es,ep,e,c⟩:=x;exact⟨z,y,vs,r,ob,es,ep,k _ _ (.inl rfl) e,c⟩
 |dT kvs=>
  obtain⟨z,y,xs,r,ob,es,ep,e,c⟩:=x;exact⟨z,y,xs,Paired.mapP r λp q z=>⟨z.1,ht _ _ z.2.1,z.2.2⟩,ob,es,ep,k _ _ (.inl rfl) e,c⟩
 |set S n=>obtain⟨ob,es,ep,t,e,c⟩:=x;exact⟨ob,es,ep,t,k _ _ (.inl rfl) e,c⟩
 |ins C dx fs=>
  obtain⟨d,z,ne,e,mA,⟨od,es,ep,e2,c⟩,r⟩:=x;exact⟨ho _ d,z,ne,k _ _ (.inl rfl) e,mA,⟨od,es,ep,k _ _ (.inr d) e2,c⟩,r⟩
 |own y=>obtain⟨ob,e⟩:=x;exact⟨ob,k _ _ (.inl rfl) e⟩
 |xd fs=>obtain⟨mA,⟨od,es,ep,e,c⟩,r⟩:=x;exact⟨mA,⟨od,es,ep,k _ _ (.inl rfl) e,c⟩,r⟩
 |rng lo hi=>obtain⟨t,u,v,e⟩:=x;exact⟨t,u,v,k _ _ (.inl rfl) e⟩
 |j4 ob u ih=>obtain⟨e,q⟩:=x;exact⟨k _ _ (.inl rfl) e,ih q⟩
 |U7 ps=>
  have e:h.get? a=some {cls:=.none,data:=.fields ps}:=x;show h'.get? a=some {cls:=.none,data:=.fields ps};exact k a _ (.inl rfl) e
 |met f y=>
  have e:h.get? a=some (methodObj (.ref f) (.ref y)):=x;show h'.get? a=some (methodObj (.ref f) (.ref y));exact k a _ (.inl rfl) e
 |ext φ=>obtain⟨p,⟨o,e⟩,st⟩:=x;exact⟨st _ _ p λo q=>k _ _ (.inl rfl) q,⟨o,k _ _ (.inl rfl) e⟩,st⟩
theorem ji.lt (x:ji P w H h)(e:H a=some o):a<h.objs.size:=(x a o e).lt
theorem ji.fresh (x:ji P w H h)(e:h.objs.size<=a):H a=none:=by
 cases q:H a with
 |none=>rfl
 |some u=>exact absurd (lt_of_lt_of_le (x.lt q) e) (lt_irrefl _)
theorem ji.kept (x:ji P w H h)(k:∀b u,h.get? b=some u->h'.get? b=some u):ji P w H h':=λa o e=>
 (x a o e).stay (λb u z q=>k b u q) (λz q=>q) λz z q=>q
theorem ji.laid (x:ji P w H h)(k:∀b u,h.get? b=some u->h'.get? b=some u)(hp:h.objs.size<=a)(new:iH P w (aN H a o) h' a o):ji P w (aN H a o) h':=λb u e=>by
 have hn:=x.fresh hp;by_cases hb:b=a
 ·subst hb;rw[ao] at e;cases e;exact new
 ·rw[aO hb] at e;exact(x b u e).stay (λc v z q=>k c v q) (λc q=>by rw[aO (aW q hn)];exact q) λc xs q=>by rw[aO (aW q hn)];exact q
end
def Rd (H:Hp)(a:Addr)(u:HO):Prop:=H a=some u\/∃o,H a=some (.j4 o u)
theorem Rd.ok {P:Program}{w:World}{H:Hp}{h:Heap}{a:Addr}{u:HO}(r:Rd H a u)(x:ji P w H h):iH P w H h a u:=by
 rcases r with r|⟨o,r⟩
 ·exact x a u r
 ·obtain⟨_,q⟩:=x a _ r;exact q
def Mut:Option HO->Prop
 |some (.aB _)=>True
 |some (.dK _)=>True
 |some (.dT _)=>True
 |some (.set _ _)=>True
 |some (.ins _ _ _)=>True
 |some (.ext _)=>True
 |_=>False
section
variable {P:Program}{w:World}{H:Hp}{h h':Heap}{x e:Addr}{o':HO}
theorem ji.write (ok:ji P w H h)(mu:Mut (H x))(he:e=x\/H e=some (.own x))(k:∀b u,b≠e->h.get? b=some u->h'.get? b=some u)(heo:∃u,h'.get? e=some u)
  (new:iH P w (aN H x o') h' x o'):ji P w (aN H x o') h':=λb u q=>by
 have nown:∀c y,H c=some (.own y)->c≠x:=λc y r z=>by subst z;rw[r] at mu;exact mu
 have ntup:∀c xs,H c=some (.tup xs)->c≠x:=λc xs r z=>by subst z;rw[r] at mu;exact mu
 by_cases hb:b=x
 ·subst hb;rw[ao] at q;cases q;exact new
 ·rw[aO hb] at q;by_cases hbe:b=e
  ·have q':H b=some (.own x):=by
    rcases he with z|z
    ·exact absurd (hbe.trans z) hb
    ·rw[hbe];exact z
   rw[q] at q';cases q';obtain⟨v,hv⟩:=heo;exact⟨v,by rw[hbe];exact hv⟩
  ·refine(ok b u q).stay (λc v hc r=>k c v ?_ r) (λc r=>by rw[aO (nown c b r)];exact r) λc xs r=>by rw[aO (ntup c xs r)];exact r
   rcases hc with rfl|hc
   ·exact hbe
   ·rintro rfl;rcases he with z|z
    ·exact nown c b hc z
    ·rw[hc] at z;cases z;exact hb rfl
end
structure Un (fs ex:List Addr)(H Z:Hp)(h h':Heap):Prop where
 keep:∀b o,h.get? b=some o->H b=none->b∉fs->b∉ex->h'.get? b=some o
 slot:∀b o,h.get? b=some o->H b=none->b∈fs->b∉ex->∃sl,h'.get? b=some {o with slots:=sl}
 free:∀b o,h.get? b=some o->H b=none->b∉ex->Z b=none
 there:∀b o,h.get? b=some o->b∉ex->∃o',h'.get? b=some o'
 tups:∀b xs,H b=some (.tup xs)->Z b=some (.tup xs)
 BX:∀b o u,H b=some (.j4 o u)->Z b=some (.j4 o u)
 FJ:∀b ps,H b=some (.U7 ps)->∃more,Z b=some (.U7 (ps++more))
section
variable {fs fs' ex ex':List Addr}{H H1 H2:Hp}{h h1 h2 h':Heap}{a x e:Addr}{o:HO}
theorem Un.any (u:Un fs ex H H1 h h1){b:Addr}{ob:Obj}(q:h.get? b=some ob)(n:H b=none)(hx:b∉ex):∃sl,h1.get? b=some {ob with slots:=sl}:=by
 by_cases hb:b∈fs
 ·exact u.slot b ob q n hb hx
 ·exact⟨ob.slots,u.keep b ob q n hb hx⟩
theorem Un.kept (k:∀b u,h.get? b=some u->h'.get? b=some u):Un fs ex H H h h':=
 ⟨λb ob q z z z=>k b ob q,λb ob q z z z=>⟨ob.slots,k b ob q⟩,λz z z n z=>n,λb ob q z=>⟨ob,k b ob q⟩,λz z q=>q,λz z z q=>q,λz ps q=>⟨#[],by rw[q];simp⟩⟩
theorem Un.refl:Un fs ex H H h h:=Un.kept λz z q=>q
theorem Un.laid (k:∀b u,h.get? b=some u->h'.get? b=some u)(hp:h.objs.size<=a)(hn:H a=none):Un fs ex H (aN H a o) h h' where
 keep:=λb u q z z z=>k b u q
 slot:=λb u q z z z=>⟨u.slots,k b u q⟩
 free:=λb u q n z=>by rw[aO (ne_of_lt (lt_of_lt_of_le (Heap.lt_size q) hp))];exact n
 there:=λb u q z=>⟨u,k b u q⟩
 tups:=λb xs q=>by rw[aO (aW q hn)];exact q
 BX:=λb u xs q=>by rw[aO (aW q hn)];exact q
 FJ:=λb ps q=>⟨#[],by rw[aO (aW q hn),q];simp⟩
theorem Un.write (mu:Mut (H x))(he:e=x\/H e=some (.own x))(k:∀b u,b≠e->h.get? b=some u->h'.get? b=some u)(heo:∃u,h'.get? e=some u):Un fs ex H (aN H x o) h h':=by
 have hx:∀b,H b=none->b≠x:=λb n z=>by subst z;rw[n] at mu;exact mu
 have hb:∀b,H b=none->b≠e:=λb n z=>by
  subst z;rcases he with r|r
  ·exact hx b n r
  ·rw[n] at r;cases r
 have hm:∀b u,H b=some u->¬Mut (some u)->b≠x:=λb u q nm z=>by subst z;rw[q] at mu;exact nm mu
 refine⟨λb u q n y y=>k b u (hb b n) q,λb u q n y y=>⟨u.slots,k b u (hb b n) q⟩,λb u q n y=>by rw[aO (hx b n)];exact n,λb u q y=>?_,
  λb xs q=>by rw[aO (hm b _ q λz=>z)];exact q,λb u xs q=>by rw[aO (hm b _ q λz=>z)];exact q,λb ps q=>⟨#[],by rw[aO (hm b _ q λz=>z),q];simp⟩⟩
 by_cases hbe:b=e
 ·subst hbe;exact heo
 ·exact⟨u,k b u hbe q⟩
end
noncomputable def trk (h:Heap)(H:Hp):List Addr:=(range h.objs.size).filter λa=>(H a).isSome
def BZ (h:Heap)(H:Hp):Heap:=PySem.W.hideAll h (trk h H)
theorem hidT_size (h:Heap)(H:Hp):(BZ h H).objs.size=h.objs.size:=PySem.W.hideAll_size _ _
theorem hidT_get {h:Heap}{H:Hp}{b:Addr}{o:Obj}(e:h.get? b=some o)(n:H b=none):(BZ h H).get? b=some o:=
 PySem.W.hideAll_get _ e λhm=>by
  have q:(H b).isSome=true:=(mem_filter.mp hm).2;rw[n] at q;simp at q
theorem of_hidT {h:Heap}{H:Hp}{b:Addr}{o:Obj}(e:(BZ h H).get? b=some o):h.get? b=some o/\H b=none:=by
 have e':h.get? b=some o:=PySem.W.of_hideAll (trk h H) e;refine⟨e',?_⟩;cases q:H b with
 |none=>rfl
 |some x=>
  have hm:b∈trk h H:=mem_filter.mpr ⟨List.mem_range.mpr (Heap.lt_size e'),by simp[q]⟩;have z:(BZ h H).get? b=none:=PySem.W.hideAll_none (trk h H) hm;rw[z] at e;cases e
noncomputable def allNews (g h:Heap)(L:Addr):LO0:=(range h.objs.size).filterMap λa=>if a=L\/(g.get? a).isSome=true then none else(h.get? a).map λo=>(a,o)
noncomputable def rest (g h:Heap)(L d:Addr):LO0:=(allNews g h L).filter λp=>decide (p.1≠d)
end L2
namespace L2
structure Mod (K:Frag)(mg:Str->Option Value)(aq:Heap):Prop where
 YM:K.In aq
 glob:aq.Ns mainGlobals mg
 blt:∃mb,aq.Ns builtinsNs mb/\∀x:Str,x≠"__name__"->mb x=bootBuiltins x
 nolimit:aq.NoLimit
structure Cx where
 prog:Program
 w:World
 K:Frag
 mg:Str->Option Value
 aq:Heap
 A:Around
 N:List Str
 s_0:Shared
 H_0:Hp
 env:Env
 outer:List Env
 stack:List Env
 ex:List Addr
 fn:Str->Bool
 calm:Bool
 pn:LO0
 xe:VS0
noncomputable def frs (l:List Env):List Addr:=l.filterMap (·.frame)
abbrev Cx.fs (X:Cx):List Addr:=frs X.outer
def YQ (sc:Scope)(x:Str):Prop:=sc.names.lookup x=some .local\/sc.names.lookup x=some .cell\/sc.names.lookup x=some .free
def Loc (sc:Scope)(x:Str):Prop:=sc.names.lookup x=some .local\/sc.names.lookup x=some .cell
def Look (env:Env)(h:Heap)(m:Str->Option Value)(x:Str)(u:Value):Prop:=
 (env.kindOf x=some .local/\m x=some u)\/((env.kindOf x=some .cell\/env.kindOf x=some .free)/\∃c,env.cells.lookup x=some c/\h.IsCell c (some u))
structure Cx.Ok (X:Cx):Prop where
 mod:Mod X.K X.mg X.aq
 kind:X.env.scope.kind=.function
 glob:X.env.globals=mainGlobals
 blt:X.env.builtins=builtinsNs
 above:X.s_0.heap.objs.size<=X.env.locals
 inj:∀x y c,X.env.cells.lookup x=some c->X.env.cells.lookup y=some c->x=y
 has:∀x,(X.env.kindOf x=some .cell\/X.env.kindOf x=some .free)->∃c,X.env.cells.lookup x=some c
 cab:∀x c,X.fn x=true->X.env.cells.lookup x=some c->X.s_0.heap.objs.size<=c
 hd:X.calm=true->X.A.handled=none
 frames:X.A.frames=some X.stack
 stk:X.stack=X.outer\/(X.stack=X.env::X.outer/\X.env.frame=some X.env.locals)
 exf:∀b∈X.ex,b≠X.env.locals/\∀x c,X.env.cells.lookup x=some c->c≠b
 bs:∀b o,X.aq.get? b=some o->X.s_0.heap.get? b=some o/\X.H_0 b=none
 FN:X.aq.objs.size<=X.s_0.heap.objs.size
 U8:∀b o,X.aq.get? b=some o->b∉X.ex
 U9:∀b∈X.ex,b∉X.fs
 qR:X.s_0.heap.FunFrames X.aq X.outer
 Ra:∀b∈X.fs,X.H_0 b=none
structure Inv (X:Cx)(aj:LO0)(σ:List (Option V))(H:Hp)(s:Shared):Prop where
 ok:X.Ok
 os:s.os=X.s_0.os
 bare:AllBare s.gens
 aq:Un X.fs X.ex X.H_0 H X.s_0.heap s.heap
 loc:∃m,s.heap.Ns X.env.locals m/\∀(i:Nat) (x:Str) (v:V),X.N[i]? =some x->σ[i]? =some (some v)->YQ X.env.scope x->∃u,RelV v u/\Look X.env s.heap m x u
 cell:∀x c,X.env.cells.lookup x=some c->∃v,s.heap.IsCell c v
 free:H X.env.locals=none
 pJ:∀x c,X.env.cells.lookup x=some c->H c=none
 pin:∀p∈X.pn++aj,s.heap.get? p.1=some p.2/\H p.1=none/\p.1≠X.env.locals/\p.1∉X.fs/\∀v,p.2.data≠ .cell v
 hok:ji X.prog X.w H s.heap
 len:σ.length=X.N.length
section
variable {X:Cx}{aj:LO0}{σ:List (Option V)}{H Z:Hp}{s:Shared}{h':Heap}
theorem Cx.Ok.nofr (ok:X.Ok){b:Addr}{o:Obj}(e:X.aq.get? b=some o):b∉X.fs:=λhb=>by
 have:=(ok.qR.mem hb).1;rw[e] at this;cases this
theorem Inv.bs (I:Inv X aj σ H s):∀b o,X.aq.get? b=some o->s.heap.get? b=some o/\H b=none:=λb o e=>
 ⟨I.aq.keep b o (I.ok.bs b o e).1 (I.ok.bs b o e).2 (I.ok.nofr e) (I.ok.U8 b o e),I.aq.free b o (I.ok.bs b o e).1 (I.ok.bs b o e).2 (I.ok.U8 b o e)⟩
theorem Inv.bk (I:Inv X aj σ H s):∀b o,X.aq.get? b=some o->s.heap.get? b=some o:=λb o e=>(I.bs b o e).1
theorem Inv.mod (I:Inv X aj σ H s):Mod X.K X.mg X.aq:=I.ok.mod
theorem Inv.sG (I:Inv X aj σ H s):X.K.In s.heap:=I.ok.mod.YM.keeps I.bk
theorem Inv.nolimit (I:Inv X aj σ H s):s.heap.NoLimit:=I.ok.mod.nolimit.keeps I.bk
theorem Inv.fr (I:Inv X aj σ H s):∃m,Fr X.aq X.env.locals s.heap m:=
 let ⟨m,hn,_⟩:=I.loc
 ⟨m,hn,I.bk,le_trans I.ok.FN I.ok.above⟩
theorem Inv.lt (I:Inv X aj σ H s):X.env.locals<s.heap.objs.size:=let ⟨_,hn,_⟩:=I.loc;hn.lt
theorem Inv.sz (I:Inv X aj σ H s):X.s_0.heap.objs.size<=s.heap.objs.size:=le_trans I.ok.above (le_of_lt I.lt)
theorem Inv.nofs (I:Inv X aj σ H s){a:Addr}(h:s.heap.objs.size<=a):a∉X.fs:=λhb=>by
 obtain⟨_,o,ho,_⟩:=I.ok.qR.mem hb;exact absurd (lt_of_lt_of_le (Heap.lt_size ho) (le_trans I.sz h)) (lt_irrefl _)
theorem Inv.Va (I:Inv X aj σ H s):∀x c,X.env.cells.lookup x=some c->c≠X.env.locals:=λx c e z=>by
 obtain⟨v,o,ho,hd⟩:=I.cell x c e;obtain⟨m,⟨o',es,ep,ho',hd',_⟩,_⟩:=I.loc;rw[z,ho'] at ho;cases ho;rw[hd'] at hd;cases hd
theorem Inv.qR (I:Inv X aj σ H s):s.heap.FunFrames X.aq X.outer:=by
 have all:∀(l:List Env),(∀b∈frs l,b∈X.fs)->X.s_0.heap.FunFrames X.aq l->s.heap.FunFrames X.aq l:=by
  intro l
  induction l with
  |nil=>intro _ _;trivial
  |cons env r ih=>
   intro hs hl;obtain⟨O,⟨L,o,hf,hn,ho,hd⟩,hr⟩:=hl;have hL:L∈X.fs:=hs L (by unfold frs;rw[filterMap_cons,hf];exact mem_cons_self);obtain⟨sl,e⟩:=I.aq.slot L o ho (I.ok.Ra L hL) hL λz=>I.ok.U9 L z hL;exact⟨O,⟨L,_,hf,hn,e,hd⟩,ih (λb hb=>hs b (by unfold frs;rw[filterMap_cons,hf];exact mem_cons_of_mem _ hb)) hr⟩
 exact all X.outer (λy hb=>hb) I.ok.qR
theorem Inv.stack (I:Inv X aj σ H s):s.heap.FunFrames X.aq X.stack:=by
 rcases I.ok.stk with e|⟨e,hf⟩
 ·rw[e];exact I.qR
 ·rw[e];obtain⟨m,hn,_⟩:=I.loc;refine .cons (by rw[I.ok.kind];decide) hf hn ?_ I.qR;exact Heap.get?_none_of_le (le_trans I.ok.FN I.ok.above)
theorem Inv.Vb (I:Inv X aj σ H s):∀b∈frs X.stack,b∈X.env.locals::X.fs:=λb hb=>by
 rcases I.ok.stk with e|⟨e,hf⟩
 ·rw[e] at hb;exact mem_cons_of_mem _ hb
 ·rw[e] at hb;unfold frs at hb;rw[filterMap_cons,hf] at hb;exact hb
theorem Inv.YS (I:Inv X aj σ H s):∀b∈frs X.stack,H b=none:=λb hb=>by
 rcases mem_cons.mp (I.Vb b hb) with e|hb
 ·rw[e];exact I.free
 ·obtain⟨_,o,ho,_⟩:=I.ok.qR.mem hb;exact I.aq.free b o ho (I.ok.Ra b hb) λz=>I.ok.U9 b z hb
theorem Inv.step {g':Array GenState}{t':Nat}{d':Drawn}{ch:List Addr}(I:Inv X aj σ H s)
  (hch:∀b∈ch,(b∈X.ex\/X.s_0.heap.objs.size<=b)/\b≠X.env.locals/\(∀x c,X.env.cells.lookup x=some c->c≠b)/\∀p∈X.pn++aj,p.1≠b)
  (keep:∀b o,b≠X.env.locals->b∉X.fs->b∉ch->s.heap.get? b=some o->H b=none->h'.get? b=some o)
  (slot:∀b o,b≠X.env.locals->b∈X.fs->b∉ch->s.heap.get? b=some o->H b=none->∃sl,h'.get? b=some {o with slots:=sl}) (free:∀b o,b∉ch->s.heap.get? b=some o->H b=none->Z b=none)
  (there:∀b o,b∉ch->s.heap.get? b=some o->∃o',h'.get? b=some o')
  (tups:∀b xs,H b=some (.tup xs)->Z b=some (.tup xs)) (BX:∀b o u,H b=some (.j4 o u)->Z b=some (.j4 o u)) (FJ:∀b ps,H b=some (.U7 ps)->∃more,Z b=some (.U7 (ps++more)))
  (ns:∀m,s.heap.Ns X.env.locals m->h'.Ns X.env.locals m) (hok:ji X.prog X.w Z h') (hg:AllBare g'):
  Inv X aj σ Z {s with heap:=h',gens:=g',drawn:=d',toks:=t'}:=by
 have neL:∀b o,X.s_0.heap.get? b=some o->b≠X.env.locals:=λb o e=>ne_of_lt (lt_of_lt_of_le (Heap.lt_size e) I.ok.above);have neC:∀b o,X.s_0.heap.get? b=some o->b∉X.ex->b∉ch:=λb o e hx hb=>by
  rcases(hch b hb).1 with z|z
  ·exact hx z
  ·exact absurd (lt_of_lt_of_le (Heap.lt_size e) z) (lt_irrefl _)
 have cellK:∀x c,X.env.cells.lookup x=some c->∀v,s.heap.IsCell c v->h'.IsCell c v:=λx c e v ⟨o,ho,hd⟩=>by
  have nch:c∉ch:=λz=>(hch c z).2.2.1 x c e rfl;by_cases hc:c∈X.fs
  ·obtain⟨sl,q⟩:=slot c o (I.Va x c e) hc nch ho (I.pJ x c e);exact⟨_,q,hd⟩
  ·exact⟨o,keep c o (I.Va x c e) hc nch ho (I.pJ x c e),hd⟩
 refine⟨I.ok,I.os,hg,⟨λb o e n hb hx=>?_,λb o e n hb hx=>?_,λb o e n hx=>?_,λb o e hx=>?_,λb xs e=>tups b xs (I.aq.tups b xs e),λb o xs e=>BX b o xs (I.aq.BX b o xs e),λb ps e=>?_⟩,?_,λx c e=>?_,?_,λx c e=>?_,λp hp=>?_,hok,I.len⟩
 ·exact keep b o (neL b o e) hb (neC b o e hx) (I.aq.keep b o e n hb hx) (I.aq.free b o e n hx)
 ·obtain⟨sl,e1⟩:=I.aq.slot b o e n hb hx;obtain⟨sl',e2⟩:=slot b _ (neL b o e) hb (neC b o e hx) e1 (I.aq.free b o e n hx);exact⟨sl',e2⟩
 ·obtain⟨o',e1⟩:=I.aq.there b o e hx;exact free b o' (neC b o e hx) e1 (I.aq.free b o e n hx)
 ·obtain⟨o',e1⟩:=I.aq.there b o e hx;exact there b o' (neC b o e hx) e1
 ·obtain⟨m1,e1⟩:=I.aq.FJ b ps e;obtain⟨m2,e2⟩:=FJ b _ e1;exact⟨m1++m2,by rw[e2,Array.append_assoc]⟩
 ·obtain⟨m,hn,hl⟩:=I.loc;refine⟨m,ns m hn,λi x v e1 e2 e3=>?_⟩;obtain⟨u,r,l⟩:=hl i x v e1 e2 e3;refine⟨u,r,?_⟩;rcases l with l|⟨k,c,e,z⟩
  ·exact .inl l
  ·exact .inr ⟨k,c,e,cellK x c e _ z⟩
 ·obtain⟨v,z⟩:=I.cell x c e;exact⟨v,cellK x c e v z⟩
 ·obtain⟨m,⟨o,_,_,ho,_⟩,_⟩:=I.loc;exact free _ o (λz=>(hch _ z).2.1 rfl) ho I.free
 ·obtain⟨v,o,ho,hd⟩:=I.cell x c e;exact free c o (λz=>(hch c z).2.2.1 x c e rfl) ho (I.pJ x c e)
 ·obtain⟨e,n,ne,nf,d⟩:=I.pin p hp;have nch:p.1∉ch:=λz=>(hch p.1 z).2.2.2 p hp rfl;exact⟨keep p.1 p.2 ne nf nch e n,free p.1 p.2 nch e n,ne,nf,d⟩
theorem Inv.un {t':Nat}(I:Inv X aj σ H s)(u:Un X.fs [] H Z s.heap h')(hok:ji X.prog X.w Z h'):Inv X aj σ Z {s with heap:=h',toks:=t'}:=by
 obtain⟨m,⟨o,es,ep,ho,r⟩,_⟩:=id I.loc;obtain⟨sl,hL⟩:=u.any ho I.free (by simp);exact I.step (g':=s.gens) (d':=s.drawn) (ch:=[]) (λy z=>nomatch z) (λb o y hb y e n=>u.keep b o e n hb (by simp)) (λb o y hb y e n=>u.slot b o e n hb (by simp)) (λb o y e n=>u.free b o e n (by simp)) (λb o y e=>u.there b o e (by simp)) u.tups u.BX u.FJ (λm' hm=>by
  obtain⟨o',es',ep',ho',r'⟩:=hm;rw[ho] at ho';cases ho';exact⟨_,es',ep',hL,r'⟩) hok I.bare
theorem Inv.call {g':Array GenState}{t':Nat}{d':Drawn}{ch:List Addr}(I:Inv X aj σ H s)(u:Un (frs X.stack) ch H Z s.heap h')(hok:ji X.prog X.w Z h')(hg:AllBare g')
  (hch:∀b∈ch,(b∈X.ex\/X.s_0.heap.objs.size<=b)/\b≠X.env.locals/\(∀x c,X.env.cells.lookup x=some c->c≠b)/\∀p∈X.pn++aj,p.1≠b):
  Inv X aj σ Z {s with heap:=h',gens:=g',drawn:=d',toks:=t'}:=by
 obtain⟨m,⟨o,es,ep,ho,r⟩,_⟩:=id I.loc;obtain⟨sl,hL⟩:=u.any ho I.free λz=>(hch _ z).2.1 rfl;exact I.step (ch:=ch) hch (λb o hL hb hc e n=>u.keep b o e n (λz=>(mem_cons.mp (I.Vb b z)).elim hL hb) hc) (λb o y y hc e n=>u.any e n hc) (λb o hc e n=>u.free b o e n hc) (λb o hc e=>u.there b o e hc) u.tups u.BX u.FJ (λm' hm=>by
  obtain⟨o',es',ep',ho',r'⟩:=hm;rw[ho] at ho';cases ho';exact⟨_,es',ep',hL,r'⟩) hok hg
theorem Inv.turned {t':Nat}{it:Addr}(I:Inv X aj σ H s)(k:∀b o,b≠it->s.heap.get? b=some o->h'.get? b=some o)(hn:H it=none)(hL:it≠X.env.locals)
  (h1:it∈X.ex\/X.s_0.heap.objs.size<=it) (h2:∀x c,X.env.cells.lookup x=some c->c≠it) (h3:∀p∈X.pn++aj,p.1≠it):Inv X aj σ H {s with heap:=h',toks:=t'}:=by
 have Rb:∀b u,H b=some u->b≠it:=λb u e z=>by rw[z,hn] at e;cases e
 refine I.step (g':=s.gens) (d':=s.drawn) (ch:=[it]) (λb hb=>?_) (λb o y y hc e y=>k b o (λz=>hc (by simp[z])) e) (λb o y y hc e y=>⟨o.slots,k b o (λz=>hc (by simp[z])) e⟩) (λy y y y n=>n)
  (λb o hc e=>⟨o,k b o (λz=>hc (by simp[z])) e⟩) (λy y e=>e) (λy y y e=>e) (λb ps e=>⟨#[],by rw[e];simp⟩) (λm hm=>?_) (λb u e=>?_) I.bare
 ·have e:b=it:=by simpa using hb
  subst e;exact⟨h1,hL,h2,h3⟩
 ·obtain⟨o,es,ep,ho,r⟩:=hm;exact⟨o,es,ep,k _ o (Ne.symm hL) ho,r⟩
 ·refine(I.hok b u e).stay (λc v hc q=>k c v ?_ q) (λy q=>q) λy y q=>q;rcases hc with z|z
  ·rw[z];exact Rb b u e
  ·exact Rb c _ z
theorem Inv.tok (I:Inv X aj σ H s)(t:Nat):Inv X aj σ H {s with toks:=t}:=I.un (h':=s.heap) (t':=t) Un.refl I.hok
theorem Inv.kept {t':Nat}(I:Inv X aj σ H s)(k:∀b u,s.heap.get? b=some u->h'.get? b=some u):Inv X aj σ H {s with heap:=h',toks:=t'}:=I.un (Un.kept k) (I.hok.kept k)
theorem Inv.laid {a:Addr}{o:HO}{t':Nat}(I:Inv X aj σ H s)(k:∀b u,s.heap.get? b=some u->h'.get? b=some u)(hp:s.heap.objs.size<=a)(new:iH X.prog X.w (aN H a o) h' a o):
  Inv X aj σ (aN H a o) {s with heap:=h',toks:=t'}:=I.un (Un.laid k hp (I.hok.fresh hp)) (I.hok.laid k hp new)
theorem Inv.write {x e:Addr}{o:HO}{t':Nat}(I:Inv X aj σ H s)(mu:Mut (H x))(he:e=x\/H e=some (.own x))(k:∀b u,b≠e->s.heap.get? b=some u->h'.get? b=some u)(heo:∃u,h'.get? e=some u)
  (new:iH X.prog X.w (aN H x o) h' x o):Inv X aj σ (aN H x o) {s with heap:=h',toks:=t'}:=I.un (Un.write mu he k heo) (I.hok.write mu he k heo new)
theorem Inv.weak {σ':List (Option V)}(I:Inv X aj σ H s)(hl:σ'.length=σ.length)(w:∀(i:Nat) v,σ'[i]? =some (some v)->σ[i]? =some (some v)):Inv X aj σ' H s:=
 ⟨I.ok,I.os,I.bare,I.aq,let ⟨m,hn,hl'⟩:=I.loc;⟨m,hn,λi x v e1 e2 e3=>hl' i x v e1 (w i v e2) e3⟩,I.cell,I.free,I.pJ,I.pin,I.hok,hl.trans I.len⟩
theorem Inv.YT {pins':LO0}(I:Inv X aj σ H s)(h:∀p∈pins',s.heap.get? p.1=some p.2/\H p.1=none/\p.1≠X.env.locals/\p.1∉X.fs/\∀v,p.2.data≠ .cell v):Inv X pins' σ H s:=
 ⟨I.ok,I.os,I.bare,I.aq,I.loc,I.cell,I.free,I.pJ,λp hp=>(mem_append.mp hp).elim (λz=>I.pin p (List.mem_append_left _ z)) (h p),I.hok,I.len⟩
theorem K4 {N:List Str}(hN:N.Nodup){i j:Nat}{x:Str}(a:N[i]? =some x)(b:N[j]? =some x):i=j:=by
 obtain⟨h1,e1⟩:=List.getElem?_eq_some_iff.mp a;obtain⟨h2,e2⟩:=List.getElem?_eq_some_iff.mp b;exact(List.getElem_inj hN).mp (e1.trans e2.symm)
theorem Rf {M:Model}{A:Around}{E:VS0}{i:Nat}{x:Str}{v:V}{u:Value}{Q:Unit->Shared->Prop}(I:Inv X aj σ H s)(hN:X.N.Nodup)(hi:X.N[i]? =some x)(hx:Loc X.env.scope x)(r:RelV v u)
  (h:∀s',Inv X aj (σ.set i (some v)) H s'->(∃a,Heap.SameBut a s.heap s'.heap/\(a=X.env.locals\/X.env.cells.lookup x=some a))->Q () s') (hf:X.fn x=true\/X.env.scope.names.lookup x=some .local:=by first|exact .inl rfl|exact .inr rfl|assumption):wpAny M A (storeName X.env x u) Q E s:=by
 obtain⟨m,hn,hl⟩:=id I.loc;have hcls:(X.env.scope.kind == .class||(X.env.scope.kind == .module&&X.env.locals != X.env.globals))=false:=by rw[I.ok.kind];rfl
 have hiσ:i<σ.length:=by rw[I.len];exact(List.getElem?_eq_some_iff.mp hi).1
 have Va:=I.Va;have tracked:∀{a:Addr}{h':Heap},(∃o,s.heap.get? a=some o/\H a=none)->Heap.SameBut a s.heap h'->ji X.prog X.w H h':=λ{a h'} ha hs b ob e=>by
  obtain⟨_,_,hfree⟩:=ha;refine(I.hok b ob e).stay (λc w' hc q=>(hs.2 c ?_).trans q) (λt q=>q) λt t q=>q;rintro rfl;rcases hc with rfl|hc
  ·rw[hfree] at e;cases e
  ·rw[hfree] at hc;cases hc
 rcases hx with O|O
 ·refine wpAny_storeName_local O hn (λh' hn' hs=>?_) hcls;obtain⟨oL,_,_,hoL,_⟩:=id hn;refine h _ ⟨I.ok,I.os,I.bare,⟨λb o e n hb hx=>?_,λb o e n hb hx=>?_,I.aq.free,λb o e hx=>?_,I.aq.tups,I.aq.BX,I.aq.FJ⟩,⟨_,hn',λj y v' e1 e2 e3=>?_⟩,λy c e=>?_,I.free,I.pJ,λp hp=>?_,tracked ⟨oL,hoL,I.free⟩ hs,by simpa using I.len⟩ ⟨_,hs,.inl rfl⟩
  ·exact(hs.2 b (ne_of_lt (lt_of_lt_of_le (Heap.lt_size e) I.ok.above))).trans (I.aq.keep b o e n hb hx)
  ·obtain⟨sl,e1⟩:=I.aq.slot b o e n hb hx;exact⟨sl,(hs.2 b (ne_of_lt (lt_of_lt_of_le (Heap.lt_size e) I.ok.above))).trans e1⟩
  ·obtain⟨o',e1⟩:=I.aq.there b o e hx;exact⟨o',(hs.2 b (ne_of_lt (lt_of_lt_of_le (Heap.lt_size e) I.ok.above))).trans e1⟩
  ·by_cases hj:j=i
   ·subst hj;rw[hi] at e1;cases e1;rw[List.getElem?_set_self hiσ] at e2;cases e2;exact⟨u,r,.inl ⟨O,by simp⟩⟩
   ·rw[List.getElem?_set_ne (Ne.symm hj)] at e2;obtain⟨u',r',q⟩:=hl j y v' e1 e2 e3;refine⟨u',r',?_⟩;rcases q with⟨k,e⟩|⟨k,c,e,z⟩
    ·refine .inl ⟨k,?_⟩;have:y≠x:=λe=>hj (K4 hN e1 (e▸hi));simp[this,e]
    ·exact .inr ⟨k,c,e,z.sameBut hs (Va y c e)⟩
  ·obtain⟨w',z⟩:=I.cell y c e;exact⟨w',z.sameBut hs (Va y c e)⟩
  ·obtain⟨e,n,ne,nf,d⟩:=I.pin p hp;exact⟨(hs.2 p.1 ne).trans e,n,ne,nf,d⟩
 ·have hfn:X.fn x=true:=by
   rcases hf with z|z
   ·exact z
   ·rw[z] at O;cases O
  obtain⟨c,hc⟩:=I.ok.has x (.inl O);obtain⟨w',z⟩:=I.cell x c hc;refine wpAny_storeName_cell I.ok.kind O hc z (λh' hc' hs=>?_);obtain⟨oc,hoc,hocd⟩:=id z;refine h {s with heap:=h'} ⟨I.ok,I.os,I.bare,⟨λb o e n hb hx=>?_,λb o e n hb hx=>?_,I.aq.free,λb o e hx=>?_,I.aq.tups,I.aq.BX,I.aq.FJ⟩,⟨m,hn.sameBut hs (Ne.symm (Va x c hc)),λj y v' e1 e2 e3=>?_⟩,λy c' e=>?_,I.free,I.pJ,λp hp=>?_,tracked ⟨oc,hoc,I.pJ x c hc⟩ hs,by simpa using I.len⟩ ⟨c,hs,.inr hc⟩
  ·exact(hs.2 b (ne_of_lt (lt_of_lt_of_le (Heap.lt_size e) (I.ok.cab x c hfn hc)))).trans (I.aq.keep b o e n hb hx)
  ·obtain⟨sl,e1⟩:=I.aq.slot b o e n hb hx;exact⟨sl,(hs.2 b (ne_of_lt (lt_of_lt_of_le (Heap.lt_size e) (I.ok.cab x c hfn hc)))).trans e1⟩
  ·obtain⟨o',e1⟩:=I.aq.there b o e hx;exact⟨o',(hs.2 b (ne_of_lt (lt_of_lt_of_le (Heap.lt_size e) (I.ok.cab x c hfn hc)))).trans e1⟩
  ·by_cases hj:j=i
   ·subst hj;rw[hi] at e1;cases e1;rw[List.getElem?_set_self hiσ] at e2;cases e2;exact⟨u,r,.inr ⟨.inl O,c,hc,hc'⟩⟩
   ·rw[List.getElem?_set_ne (Ne.symm hj)] at e2;obtain⟨u',r',q⟩:=hl j y v' e1 e2 e3;refine⟨u',r',?_⟩;rcases q with q|⟨k,c',e,z'⟩
    ·exact .inl q
    ·refine .inr ⟨k,c',e,z'.sameBut hs ?_⟩;rintro rfl;exact hj (K4 hN e1 (I.ok.inj _ _ _ e hc▸hi))
  ·by_cases hcc:c'=c
   ·subst hcc;exact⟨_,hc'⟩
   ·obtain⟨w2,z2⟩:=I.cell y c' e;exact⟨w2,z2.sameBut hs hcc⟩
  ·obtain⟨e,n,ne,nf,d⟩:=I.pin p hp;refine⟨(hs.2 p.1 ?_).trans e,n,ne,nf,d⟩;intro q;rw[q,hoc] at e;have q':oc=p.2:=Option.some.inj e;exact d w' (by rw[<-q'];exact hocd)
theorem Vc {M:Model}{A:Around}{E:VS0}{i:Nat}{x:Str}{v:V}{u:Value}{Q:Unit->Shared->Prop}(I:Inv X aj σ H s)(hN:X.N.Nodup)(hi:X.N[i]? =some x)(hx:Loc X.env.scope x)(r:RelV v u)
  (h:∀s',Inv X aj (σ.set i (some v)) H s'->Q () s') (hf:X.fn x=true\/X.env.scope.names.lookup x=some .local:=by first|exact .inl rfl|exact .inr rfl|assumption):wpAny M A (storeName X.env x u) Q E s:=
 Rf I hN hi hx r (λs' I' z=>h s' I') hf
theorem Inv.call' {s':Shared}{ch:List Addr}(I:Inv X aj σ H s)(ho:s'.os=s.os)(u:Un (frs X.stack) ch H Z s.heap s'.heap)(hok:ji X.prog X.w Z s'.heap)(hg:AllBare s'.gens)
  (hch:∀b∈ch,(b∈X.ex\/X.s_0.heap.objs.size<=b)/\b≠X.env.locals/\(∀x c,X.env.cells.lookup x=some c->c≠b)/\∀p∈X.pn++aj,p.1≠b):Inv X aj σ Z s':=by
 obtain⟨h',g',d',t',o'⟩:=s';have e:o'=s.os:=ho;subst e;exact I.call (g':=g') (t':=t') (d':=d') u hok hg hch
end
abbrev XK:=Value->Option Addr->Hp->Prop
abbrev St:=List (Option V)
abbrev VK:=V->Hp->Prop
abbrev TE:=St->Hp->VK->Prop
abbrev TT:=St->Hp->(Bool->Hp->Prop)->Prop
abbrev TA:=St->Hp->(List V->Hp->Prop)->Prop
structure Ends where
 nx:St->Hp->Prop
 rt:VK
 bk:St->Hp->Prop:=λz z=>False
 ct:St->Hp->Prop:=λz z=>False
abbrev TS:=Ends->St->Hp->Prop
def EP (X:Cx)(aj:LO0)(σ:St)(Q:VK)(u:Value)(s':Shared):Prop:=∃v Z,Inv X aj σ Z s'/\RelV v u/\Q v Z
def TP (X:Cx)(aj:LO0)(σ:St)(Q:Bool->Hp->Prop)(b:Bool)(s':Shared):Prop:=∃Z,Inv X aj σ Z s'/\Q b Z
def AP (X:Cx)(aj:LO0)(σ:St)(Q:List V->Hp->Prop)(us:List Value)(s':Shared):Prop:=∃vs Z,Inv X aj σ Z s'/\Vals vs us/\Q vs Z
def SP (X:Cx)(aj:LO0)(D:Ends)(f:Flow)(s':Shared):Prop:=
 match f with
 | .next=>∃σ' Z,Inv X aj σ' Z s'/\D.nx σ' Z
 | .brk=>∃σ' Z,Inv X aj σ' Z s'/\D.bk σ' Z
 | .cont=>∃σ' Z,Inv X aj σ' Z s'/\D.ct σ' Z
 | .ret u=>∃v σ' Z,Inv X aj σ' Z s'/\RelV v u/\D.rt v Z
def PE (X:Cx)(e:Expr)(t:TE):Prop:=
 ∀(aj:LO0) (s:Shared) (σ:St) (H:Hp) (Q:VK),Inv X aj σ H s->t σ H Q->wpAny (model X.prog X.w) X.A (eval e X.env) (EP X aj σ Q) X.xe s
def PT (X:Cx)(e:Expr)(t:TT):Prop:=
 ∀(aj:LO0) (s:Shared) (σ:St) (H:Hp) (Q:Bool->Hp->Prop),Inv X aj σ H s->t σ H Q->wpAny (model X.prog X.w) X.A (isTrue e X.env (eval e X.env)) (TP X aj σ Q) X.xe s
def PW (X:Cx)(e:Expr)(t:TT):Prop:=
 ∀(whole:Sem Value) (aj:LO0) (s:Shared) (σ:St) (H:Hp) (Q:Bool->Hp->Prop),Inv X aj σ H s->t σ H Q->wpAny (model X.prog X.w) X.A (isTrue e X.env whole) (TP X aj σ Q) X.xe s
theorem PW.pt {X:Cx}{e:Expr}{t:TT}(h:PW X e t):PT X e t:=h _
def PA (X:Cx)(es:List Expr)(t:TA):Prop:=
 ∀(pos:Pos) (aj:LO0) (s:Shared) (σ:St) (H:Hp) (Q:List V->Hp->Prop),Inv X aj σ H s->t σ H Q->wpAny (model X.prog X.w) X.A (spliced (backTo pos (starEach es X.env))) (AP X aj σ Q) X.xe s
def PS (X:Cx)(st:Stmt)(t:TS):Prop:=
 ∀(aj:LO0) (s:Shared) (σ:St) (H:Hp) (D:Ends),Inv X aj σ H s->t D σ H->wpAny (model X.prog X.w) X.A (exec st X.env) (SP X aj D) X.xe s
def zV (X:Cx)(st:List Stmt)(t:TS):Prop:=
 ∀(aj:LO0) (s:Shared) (σ:St) (H:Hp) (D:Ends),Inv X aj σ H s->t D σ H->wpAny (model X.prog X.w) X.A (execs st X.env) (SP X aj D) X.xe s
theorem bW {α:Type}{t:Sem α}{Q Q':α->Shared->Prop}{M:Model}{A:Around}{E:VS0}{s:Shared}(h:wpAny M A t Q E s)(hQ:∀a s,Q a s->Q' a s):wpAny M A t Q' E s:=wpAny_mono h hQ λz z x=>x
end L2
namespace L2
section
variable {X:Cx}
theorem bin {a b:Expr}{ta tb:TE}(ha:PE X a ta)(hb:PE X b tb){aj:LO0}{s:Shared}{σ:St}{H:Hp}{R:V->V->Hp->Prop}(I:Inv X aj σ H s)(h:ta σ H λx H1=>tb σ H1 λy H2=>R x y H2)
  {α:Type}{Q:α->Shared->Prop}{f:Value->Value->Sem α}
  (hf:∀v u s2 x y H2,Inv X aj σ H2 s2->RelV x v->RelV y u->R x y H2->wpAny (model X.prog X.w) X.A (f v u) Q X.xe s2):
  wpAny (model X.prog X.w) X.A (eval a X.env) (λv s₁=>wpAny (model X.prog X.w) X.A (eval b X.env) (λu s₂=>wpAny (model X.prog X.w) X.A (f v u) Q X.xe s₂) X.xe s₁) X.xe s:=by
 refine bW (ha aj s σ H _ I h) λv s1 ⟨x,H1,I1,r1,q1⟩=>?_;refine bW (hb aj s1 σ H1 _ I1 q1) λu s2 ⟨y,H2,I2,r2,q2⟩=>?_;exact hf v u s2 x y H2 I2 r1 r2 q2
def qT (i:Nat):TE:=λσ H Q=>∃v,σ[i]? =some (some v)/\Q v H
def tC (v:V):TE:=λz H Q=>Q v H
theorem pe_var {i:Nat}{x:Str}{pos:Pos}(hN:X.N[i]? =some x)(hv:YQ X.env.scope x)(hd:(x == ("__debug__":Str))=false:=by decide)(hcd:(x == ("__classdict__":Str))=false:=by decide):PE X (.Name x pos) (qT i):=by
 intro aj s σ H Q I h;obtain⟨v,e,h⟩:=h;obtain⟨m,hn,hl⟩:=I.loc;obtain⟨u,r,l⟩:=hl i x v hN e hv;have fin:EP X aj σ Q u s:=⟨v,H,I,r,h⟩;rcases l with⟨O,hm⟩|⟨O,c,hc,hcell⟩
 ·exact wpAny_Name (wpAny_loadName_local I.ok.kind O hn hm fin) hd
 ·rcases O with O|O
  ·exact wpAny_Name (wpAny_loadName_cell I.ok.kind O hc hcell fin) hd
  ·exact wpAny_Name (wpAny_loadName_free I.ok.kind O hc hcell fin hcd) hd
theorem au {i j pos}:PE X (.Constant (.int i) j pos) (tC (.int i)):=λz z z H z I h=>wpAny_Constant_int ⟨.int i,H,I.tok _,⟨_,rfl⟩,h⟩
theorem pe_bl {b j pos}:PE X (.Constant (.bool b) j pos) (tC (.bl b)):=λz z z H z I h=>Constant_bool ⟨.bl b,H,I,rfl,h⟩
theorem mX {j pos}:PE X (.Constant .none j pos) (tC .non):=λz z z H z I h=>Constant_none ⟨.non,H,I,rfl,h⟩
def Gl (X:Cx)(x:Str):Prop:=X.env.kindOf x=some .globalImplicit
theorem Jc {E:VS0}{aj:LO0}{s:Shared}{σ:St}{H:Hp}{x:Str}{u:Value}{pos:Pos}{Q:VS0}(I:Inv X aj σ H s)(hg:Gl X x)(hm:X.mg x=some u)(h:Q u s)
  (hd:(x == ("__debug__":Str))=false:=by decide):wpAny (model X.prog X.w) X.A (eval (.Name x pos) X.env) Q E s:=
 Calls.Name_function_global I.ok.kind hg (Calls.loadGlobal_global (by rw[I.ok.glob];exact I.mod.glob.keeps I.bk) hm h) hd
theorem pK {E:VS0}{aj:LO0}{s:Shared}{σ:St}{H:Hp}{x:Str}{u:Value}{pos:Pos}{Q:VS0}(I:Inv X aj σ H s)(hg:Gl X x)(hm:X.mg x=none)(hv:bootBuiltins x=some u)(h:Q u s)
  (hn:x≠"__name__":=by decide) (hd:(x == ("__debug__":Str))=false:=by decide):wpAny (model X.prog X.w) X.A (eval (.Name x pos) X.env) Q E s:=by
 obtain⟨mb,h1,h2⟩:=I.mod.blt;exact Calls.Name_function_global I.ok.kind hg (Calls.loadGlobal_builtin (by rw[I.ok.glob];exact I.mod.glob.keeps I.bk) hm (by rw[I.ok.blt];exact h1.keeps I.bk) ((h2 x hn).trans hv) h) hd
theorem YW {x:Str}{v:V}{u:Value}{pos:Pos}(hg:Gl X x)(hm:X.mg x=some u)(r:RelV v u)(hd:(x == ("__debug__":Str))=false:=by decide):PE X (.Name x pos) (tC v):=
 λz z z H z I h=>Jc I hg hm ⟨v,H,I,r,h⟩ hd
def t2I (ta tb:TE)(k:Int->Int->Hp->Prop):St->Hp->Prop:=λσ H=>ta σ H λx H1=>tb σ H1 λy H2=>∃i j,x=.int i/\y=.int j/\k i j H2
variable {a b:Expr}{ta tb:TE}{pos:Pos}
def PC (X:Cx)(op:CmpOp)(a b:Expr)(t:TE):Prop:=
 ∀(aj:LO0) (s:Shared) (σ:St) (H:Hp) (Q:VK),Inv X aj σ H s->t σ H Q->
  wpAny (model X.prog X.w) X.A (eval a X.env) (λv s₁=>wpAny (model X.prog X.w) X.A (eval b X.env) (λu s₂=>wpAny (model X.prog X.w) X.A (compareOp op v u) (EP X aj σ Q) X.xe s₂) X.xe s₁) X.xe s
theorem Vd (b:Expr){op:CmpOp}(h:op≠ .In)(h2:op≠ .NotIn):behindInMarks op b=false:=by
 have e1:(op == CmpOp.In)=false:=by cases op<;>first|rfl|exact absurd rfl h
 have e2:(op == CmpOp.NotIn)=false:=by cases op<;>first|rfl|exact absurd rfl h2
 cases b<;>simp[behindInMarks,e1,e2]
def FP (p:Int->Int->Bool)(ta tb:TE):TE:=λσ H Q=>t2I ta tb (λi j H2=>Q (.bl (p i j)) H2) σ H
abbrev tLt:TE->TE->TE:=FP λi j=>decide (i<j)
abbrev tLe:TE->TE->TE:=FP λi j=>decide (i<=j)
abbrev tGt:TE->TE->TE:=FP λi j=>decide (j<i)
abbrev tGe:TE->TE->TE:=FP λi j=>decide (j<=i)
abbrev tEqI:TE->TE->TE:=FP λi j=>decide (i=j)
abbrev tNeI:TE->TE->TE:=FP λi j=> !decide (i=j)
theorem zW {op:CmpOp}{p:Int->Int->Bool}(ha:PE X a ta)(hb:PE X b tb)
  (rule:∀(i j:Int) (t u:Tok) (Q:VS0) (s:Shared),Q (.bool (p i j)) s->wpAny (model X.prog X.w) X.A (compareOp op (.int i t) (.int j u)) Q X.xe s):PC X op a b (FP p ta tb):=by
 intro aj s σ H Q I h;refine bin ha hb I h λv u s2 x y H2 I2 rx ry q=>?_;obtain⟨i,j,rfl,rfl,q⟩:=q;obtain⟨t,rfl⟩:=rx;obtain⟨t',rfl⟩:=ry;exact rule i j t t' _ s2 ⟨.bl _,H2,I2,rfl,q⟩
theorem pL (ha:PE X a ta)(hb:PE X b tb):PC X .Lt a b (tLt ta tb):=zW ha hb λz z z z z z h=>lt_int h
theorem pc_le (ha:PE X a ta)(hb:PE X b tb):PC X .LtE a b (tLe ta tb):=zW ha hb λz z z z z z h=>le_int h
theorem Mw (ha:PE X a ta)(hb:PE X b tb):PC X .Gt a b (tGt ta tb):=zW ha hb λz z z z z z h=>gt_int h
theorem Uw (ha:PE X a ta)(hb:PE X b tb):PC X .GtE a b (tGe ta tb):=zW ha hb λz z z z z z h=>ge_int h
theorem dD (ha:PE X a ta)(hb:PE X b tb):PC X .Eq a b (tEqI ta tb):=zW ha hb λz z z z z z h=>eq_int (by rw[Bool.beq_eq_decide_eq];exact h)
theorem Mx (ha:PE X a ta)(hb:PE X b tb):PC X .NotEq a b (tNeI ta tb):=zW ha hb λz z z z z z h=>ne_int (by rw[bne,Bool.beq_eq_decide_eq];exact h)
def mL (ta:TE):TE:=λσ H Q=>ta σ H λx H1=>Q (.bl (decide (x=.non))) H1
def MF (ta:TE):TE:=λσ H Q=>ta σ H λx H1=>Q (.bl (!decide (x=.non))) H1
theorem RelV.Ve {x:V}{v:Value}(r:RelV x v):(v == Value.none)=decide (x=.non):=by
 cases x with
 |non=>cases r;rfl
 |bl _=>cases r;rfl
 |int _=>obtain⟨t,rfl⟩:=r;rfl
 |str _=>obtain⟨t,rfl⟩:=r;rfl
 |Fy _=>obtain⟨t,rfl⟩:=r;rfl
 |flt _=>obtain⟨t,rfl⟩:=r;rfl
 |ref _=>cases r;rfl
 |ty _=>cases r;rfl
theorem sI {j pos'}(ha:PE X a ta):PC X .Is a (.Constant .none j pos') (mL ta):=by
 intro aj s σ H Q I h;refine bW (ha aj s σ H _ I h) λv s1 ⟨x,H1,I1,r1,q1⟩=>?_;exact Constant_none (is_none_gen ⟨.bl _,H1,I1,by rw[r1.Ve];rfl,q1⟩)
theorem YX {j pos'}(ha:PE X a ta):PC X .IsNot a (.Constant .none j pos') (MF ta):=by
 intro aj s σ H Q I h;refine bW (ha aj s σ H _ I h) λv s1 ⟨x,H1,I1,r1,q1⟩=>?_;exact Constant_none (isnot_none_gen ⟨.bl _,H1,I1,by rw[r1.Ve];rfl,q1⟩)
def tB (t:TE):TT:=λσ H Q=>t σ H λx H1=>∃c,x=.bl c/\Q c H1
theorem fU {op:CmpOp}{t:TE}(h:PC X op a b t)(h1:behindInMarks op b=false:=by first|exact Vd _ (by decide) (by decide)|rfl):PE X (.Compare a [op] [b] pos) t:=λaj s σ H Q I hw=>wpAny_Compare1 (h aj s σ H Q I hw) h1
theorem bY {op:CmpOp}{t:TE}(h:PC X op a b t)(h1:behindInMarks op b=false:=by first|exact Vd _ (by decide) (by decide)|rfl):PT X (.Compare a [op] [b] pos) (tB t):=by
 intro aj s σ H Q I hw;refine wpAny_isTrue_Compare1 (bW (h aj s σ H _ I hw) λv s1 h1=>bW h1 λu s2 h2=>bW h2 λc s3 ⟨x,H1,I1,r1,q1⟩=>?_) h1;obtain⟨d,rfl,q⟩:=q1;cases r1;exact wpAny_truthy_bool ⟨H1,I1,q⟩
theorem iG {e:Expr}{t:TE}(h:PE X e t)(he:∀whole,isTrue e X.env whole=(do let v<-whole;standAt e.pos;holding [v] (truthy v)):=by intro _;rfl):PT X e (tB t):=by
 intro aj s σ H Q I hw;refine isTrue_plain (bW (h aj s σ H _ I hw) λv s1 ⟨x,H1,I1,r1,q1⟩=>?_) (he _);obtain⟨d,rfl,q⟩:=q1;cases r1;exact wpAny_truthy_bool ⟨H1,I1,q⟩
variable {tA tB':TT}{rest:List Expr}
def tAnd (t u:TT):TT:=λσ H Q=>t σ H λc H1=>if c=true then u σ H1 Q else Q false H1
def tOr (t u:TT):TT:=λσ H Q=>t σ H λc H1=>if c=true then Q true H1 else u σ H1 Q
def tNot (t:TT):TT:=λσ H Q=>t σ H λc H1=>Q (!c) H1
theorem Py (ha:PT X a tA):PW X (.BoolOp .And [a] pos) tA:=by
 intro wh aj s σ H Q I h;refine isTrue_and (bW (ha aj s σ H Q I h) λc s1 e=>?_);cases c with
 |true=>exact isTrue_and_nil e
 |false=>exact e
theorem pw_or1 (ha:PT X a tA):PW X (.BoolOp .Or [a] pos) tA:=by
 intro wh aj s σ H Q I h;refine isTrue_or (bW (ha aj s σ H Q I h) λc s1 e=>?_);cases c with
 |false=>exact isTrue_or_nil e
 |true=>exact e
theorem Vf (ha:PT X a tA)(hb:PW X (.BoolOp .And (b::rest) pos) tB'):PW X (.BoolOp .And (a::b::rest) pos) (tAnd tA tB'):=by
 intro wh aj s σ H Q I h;refine isTrue_and (bW (ha aj s σ H _ I h) λc s1 ⟨H1,I1,q1⟩=>?_);cases c with
 |true=>exact hb wh aj s1 σ H1 Q I1 q1
 |false=>exact⟨H1,I1,q1⟩
theorem pw_or (ha:PT X a tA)(hb:PW X (.BoolOp .Or (b::rest) pos) tB'):PW X (.BoolOp .Or (a::b::rest) pos) (tOr tA tB'):=by
 intro wh aj s σ H Q I h;refine isTrue_or (bW (ha aj s σ H _ I h) λc s1 ⟨H1,I1,q1⟩=>?_);cases c with
 |true=>exact⟨H1,I1,q1⟩
 |false=>exact hb wh aj s1 σ H1 Q I1 q1
theorem mY (ha:PT X a tA):PT X (.UnaryOp .Not a pos) (tNot tA):=by
 intro aj s σ H Q I h;exact isTrue_not (ha aj s σ H (λc H1=>Q (!c) H1) I h)
def tAndV (ta tb:TE):TE:=λσ H Q=>ta σ H λx H1=>∃c,x=.bl c/\if c=true then tb σ H1 Q else Q (.bl false) H1
def tOrV (ta tb:TE):TE:=λσ H Q=>ta σ H λx H1=>∃c,x=.bl c/\if c=true then Q (.bl true) H1 else tb σ H1 Q
def tNotV (ta:TE):TE:=λσ H Q=>ta σ H λx H1=>∃c,x=.bl c/\Q (.bl (!c)) H1
theorem eF {op}{t:TE}(h:PE X a t):PE X (.BoolOp op [a] pos) t:=λaj s σ H Q I hw=>BoolOp_one (h aj s σ H Q I hw)
theorem jj (ha:PE X a ta)(hb:PE X (.BoolOp .And (b::rest) pos) tb):PE X (.BoolOp .And (a::b::rest) pos) (tAndV ta tb):=by
 intro aj s σ H Q I h;refine BoolOp_and (bW (ha aj s σ H _ I h) λv s1 ⟨x,H1,I1,r1,q1⟩=>?_);obtain⟨c,rfl,q1⟩:=q1;cases r1;refine wpAny_truthy_bool ?_;cases c with
 |true=>exact hb aj s1 σ H1 Q I1 q1
 |false=>exact⟨.bl false,H1,I1,rfl,q1⟩
theorem pe_or (ha:PE X a ta)(hb:PE X (.BoolOp .Or (b::rest) pos) tb):PE X (.BoolOp .Or (a::b::rest) pos) (tOrV ta tb):=by
 intro aj s σ H Q I h;refine BoolOp_or (bW (ha aj s σ H _ I h) λv s1 ⟨x,H1,I1,r1,q1⟩=>?_);obtain⟨c,rfl,q1⟩:=q1;cases r1;refine wpAny_truthy_bool ?_;cases c with
 |false=>exact hb aj s1 σ H1 Q I1 q1
 |true=>exact⟨.bl true,H1,I1,rfl,q1⟩
def tIf (t:TT)(ta tb:TE):TE:=λσ H Q=>t σ H λc H1=>if c=true then ta σ H1 Q else tb σ H1 Q
theorem iB {c:Expr}(hc:PT X c tA)(ha:PE X a ta)(hb:PE X b tb):PE X (.IfExp c a b pos) (tIf tA ta tb):=by
 intro aj s σ H Q I h;refine wpAny_IfExp (bW (hc aj s σ H _ I h) λd s1 ⟨H1,I1,q1⟩=>?_);cases d with
 |true=>exact ha aj s1 σ H1 Q I1 q1
 |false=>exact hb aj s1 σ H1 Q I1 q1
end
end L2
namespace L2
def aF (K:Frag)(H:Hp)(a:Addr)(xs:List V):Prop:=
 Rd H a (.aB xs)\/
  ∃(o:Obj) (its:Array Value) (n:Nat),K.lookup a=some o/\o.cls=.type "list"/\o.dict=none/\o.data=.seq its n/\its.size<=sizeLine/\Vals xs its.toList
def bR (K:Frag)(H:Hp)(a:Addr)(xs:List V):Prop:=
 Rd H a (.tup xs)\/
  ∃(o:Obj) (its:Array Value) (n:Nat),K.lookup a=some o/\o.cls=.type "tuple"/\o.data=.seq its n/\its.size<=sizeLine/\Vals xs its.toList
noncomputable def absV:Value->Option V
 | .none=>some .non
 | .bool b=>some (.bl b)
 | .int i _=>some (.int i)
 | .str x _=>some (.str x)
 | .bytes b _=>some (.Fy b)
 | .float b _=>some (.flt b)
 | .ref a=>some (.ref a)
 | .type n=>some (.ty n)
 |_=>none
theorem RelV.abs {x:V}{u:Value}(r:RelV x u):absV u=some x:=by
 cases x with
 |non=>cases r;rfl
 |bl _=>cases r;rfl
 |int _=>obtain⟨t,rfl⟩:=r;rfl
 |str _=>obtain⟨t,rfl⟩:=r;rfl
 |Fy _=>obtain⟨t,rfl⟩:=r;rfl
 |flt _=>obtain⟨t,rfl⟩:=r;rfl
 |ref _=>cases r;rfl
 |ty _=>cases r;rfl
theorem RelV.inj {x y:V}{u:Value}(r:RelV x u)(q:RelV y u):x=y:=Option.some.inj (r.abs.symm.trans q.abs)
theorem Vals.inj:∀{xs ys:List V}{us:List Value},Vals xs us->Vals ys us->xs=ys
 |_,_,_,.nil,.nil=>rfl
 |_,_,_,.cons r t,.cons r' t'=>by rw[r.inj r',Vals.inj t t']
section
variable {X:Cx}{aj:LO0}{σ:St}{H:Hp}{s:Shared}{a:Addr}{xs ys:List V}
theorem aF.of {K:Frag}(h:H a=some (.aB xs)):aF K H a xs:=.inl (.inl h)
theorem bR.of {K:Frag}(h:H a=some (.tup xs)):bR K H a xs:=.inl (.inl h)
theorem Inv.list (I:Inv X aj σ H s)(h:aF X.K H a xs):∃its:List Value,Vals xs its/\PlainL s.heap a its.toArray/\xs.length<=sizeLine:=by
 rcases h with h|⟨o,its,n,O,hc,hd,hs,hz,r⟩
 ·obtain⟨z,its,n,r,e⟩:=h.ok I.hok;exact⟨its,r,⟨_,n,e,rfl,rfl,rfl⟩,z⟩
 ·refine⟨its.toList,r,⟨o,n,I.sG a o O,hc,hd,by simpa using hs⟩,?_⟩;have e:=r.length;simp only[Array.length_toList] at e;lia
theorem Inv.tuple (I:Inv X aj σ H s)(h:bR X.K H a xs):∃its:List Value,Vals xs its/\IsTup s.heap a its.toArray/\xs.length<=sizeLine:=by
 rcases h with h|⟨o,its,n,O,hc,hs,hz,r⟩
 ·obtain⟨z,its,r,p⟩:=h.ok I.hok;exact⟨its,r,p,z⟩
 ·refine⟨its.toList,r,⟨o,I.sG a o O,hc,n,by simpa using hs⟩,?_⟩;have e:=r.length;simp only[Array.length_toList] at e;lia
theorem Inv.vV (I:Inv X aj σ H s)(h:aF X.K H a xs)(h':aF X.K H a ys):xs=ys:=by
 obtain⟨its,r,⟨o,n,e,_,_,d⟩,_⟩:=I.list h;obtain⟨its',r',⟨o',n',e',_,_,d'⟩,_⟩:=I.list h';rw[e] at e';cases e';rw[d] at d';injection d' with d1 _;have:its=its':=by simpa using congrArg Array.toList d1
 subst this;exact r.inj r'
end
abbrev Cx.wish (X:Cx)(E:VS0):Cx:={X with xe:=E}
abbrev Cx.nox (X:Cx):Cx:=X.wish λz z=>False
theorem Cx.Ok.wish {X:Cx}(ok:X.Ok)(E:VS0):(X.wish E).Ok:=
 ⟨ok.mod,ok.kind,ok.glob,ok.blt,ok.above,ok.inj,ok.has,ok.cab,ok.hd,ok.frames,ok.stk,ok.exf,ok.bs,ok.FN,ok.U8,ok.U9,ok.qR,ok.Ra⟩
theorem Cx.Ok.sJ {X:Cx}{E:VS0}(ok:(X.wish E).Ok):X.Ok:=
 ⟨ok.mod,ok.kind,ok.glob,ok.blt,ok.above,ok.inj,ok.has,ok.cab,ok.hd,ok.frames,ok.stk,ok.exf,ok.bs,ok.FN,ok.U8,ok.U9,ok.qR,ok.Ra⟩
section
variable {X:Cx}{aj:LO0}{σ:St}{H:Hp}{s:Shared}{E:VS0}
theorem Inv.wish (I:Inv X aj σ H s)(E:VS0):Inv (X.wish E) aj σ H s:=⟨I.ok.wish E,I.os,I.bare,I.aq,I.loc,I.cell,I.free,I.pJ,I.pin,I.hok,I.len⟩
theorem Inv.sJ (I:Inv (X.wish E) aj σ H s):Inv X aj σ H s:=⟨I.ok.sJ,I.os,I.bare,I.aq,I.loc,I.cell,I.free,I.pJ,I.pin,I.hok,I.len⟩
theorem SP.sJ {D:Ends}{f:Flow}{s':Shared}(h:SP (X.wish E) aj D f s'):SP X aj D f s':=by
 cases f with
 |next=>obtain⟨σ',Z,I,q⟩:=h;exact⟨σ',Z,I.sJ,q⟩
 |brk=>obtain⟨σ',Z,I,q⟩:=h;exact⟨σ',Z,I.sJ,q⟩
 |cont=>obtain⟨σ',Z,I,q⟩:=h;exact⟨σ',Z,I.sJ,q⟩
 |ret u=>obtain⟨v,σ',Z,I,r,q⟩:=h;exact⟨v,σ',Z,I.sJ,r,q⟩
theorem zV.nox {st:List Stmt}{t:TS}(h:zV X.nox st t):zV X st t:=λaj s σ H D I hw=>
 wpAny_mono (h aj s σ H D (I.wish _) hw) (λy y q=>q.sJ) λy y z=>False.elim z
end
section
variable {X:Cx}{st:Stmt}{rest:List Stmt}{t u:TS}{e:Expr}{te:TE}{pos:Pos}
def tNext:TS:=λD σ H=>D.nx σ H
def tSeq (t u:TS):TS:=λD σ H=>t {D with nx:=u D} σ H
theorem bN:zV X [] tNext:=λ_ _ σ H _ I h=>wpAny_execs_nil ⟨σ,H,I,h⟩
theorem aC (h1:PS X st t)(h2:zV X rest u):zV X (st::rest) (tSeq t u):=by
 intro aj s σ H D I h;refine wpAny_execs_cons (bW (h1 aj s σ H {D with nx:=u D} I h) λf s1 q=>?_)
 cases f with
 |next=>
  obtain⟨σ',Z,I',q⟩:=q;exact h2 aj s1 σ' Z D I' q
 |ret v=>exact q
 |brk=>exact q
 |cont=>exact q
theorem ak (h1:PS X st t):zV X [st] t:=by
 intro aj s σ H D I h;refine wpAny_execs_cons (bW (h1 aj s σ H D I h) λf s1 q=>?_);cases f with
 |next=>exact wpAny_execs_nil q
 |ret v=>exact q
 |brk=>exact q
 |cont=>exact q
theorem Inv.quiet {aj:LO0}{σ:St}{H:Hp}{s:Shared}(I:Inv X aj σ H s):interactive X.env=false:=by simp[interactive,I.ok.kind]
def tDrop (te:TE):TS:=λD σ H=>te σ H λz H1=>D.nx σ H1
theorem eZ (he:PE X e te)(hs:swapsWith e none pos.line X.env=pure false:=by rfl):PS X (.Expr e pos) (tDrop te):=by
 intro aj s σ H D I h;exact wpAny_Expr_any (bW (he aj s σ H _ I h) λv s1 ⟨x,H1,I1,r1,q1⟩=>⟨σ,H1,I1,q1⟩) I.quiet hs
def tRet (te:TE):TS:=λD σ H=>te σ H D.rt
theorem aG (he:PE X e te):PS X (.Return (some e) pos) (tRet te):=by
 intro aj s σ H D I h;exact wpAny_Return_some (bW (he aj s σ H _ I h) λv s1 ⟨x,H1,I1,r1,q1⟩=>⟨x,σ,H1,I1,r1,q1⟩)
def tRetN:TS:=λD z H=>D.rt .non H
def tIfS (c:TT)(t u:TS):TS:=λD σ H=>c σ H λb H1=>if b=true then t D σ H1 else u D σ H1
theorem cC {c:Expr}{a b:List Stmt}{tc:TT}(hc:PT X c tc)(ha:zV X a t)(hb:zV X b u):PS X (.If c a b pos) (tIfS tc t u):=by
 intro aj s σ H D I h;refine wpAny_If (bW (hc aj s σ H _ I h) λd s1 ⟨H1,I1,q1⟩=>?_);cases d with
 |true=>exact ha aj s1 σ H1 D I1 q1
 |false=>exact hb aj s1 σ H1 D I1 q1
end
abbrev TG:=V->St->Hp->(St->Hp->Prop)->Prop
abbrev Rg:=List V->St->Hp->(St->Hp->Prop)->Prop
def PG (X:Cx)(target:Expr)(t:TG):Prop:=
 ∀(aj:LO0) (s:Shared) (σ:St) (H:Hp) (v:V) (u:Value) (Q:St->Hp->Prop),Inv X aj σ H s->RelV v u->t v σ H Q->
  wpAny (model X.prog X.w) X.A (assign target X.env u) (λz s'=>∃σ' Z,Inv X aj σ' Z s'/\Q σ' Z) X.xe s
def PGs (X:Cx)(ts:List Expr)(t:Rg):Prop:=
 ∀(aj:LO0) (s:Shared) (σ:St) (H:Hp) (vs:List V) (us:List Value) (Q:St->Hp->Prop),Inv X aj σ H s->Vals vs us->t vs σ H Q->
  wpAny (model X.prog X.w) X.A (assignInOrder ((assignEach ts X.env).map (·.2)) us) (λz s'=>∃σ' Z,Inv X aj σ' Z s'/\Q σ' Z) X.xe s
section
variable {X:Cx}{pos:Pos}
def pN (i:Nat):TG:=λv σ H Q=>Q (σ.set i (some v)) H
theorem bM {i:Nat}{x:Str}(hN:X.N.Nodup)(hi:X.N[i]? =some x)(hx:Loc X.env.scope x)(hf:X.fn x=true\/X.env.scope.names.lookup x=some .local:=by first|exact .inl rfl|exact .inr rfl|assumption):PG X (.Name x pos) (pN i):=by
 intro aj s σ H v u Q I r h;exact wpAny_assign_Name (Vc I hN hi hx r (λs' I'=>⟨_,H,I',h⟩) hf)
def gNil:Rg:=λvs σ H Q=>vs=[]/\Q σ H
def gCons (t:TG)(u:Rg):Rg:=λvs σ H Q=>∃v r,vs=v::r/\t v σ H λσ' Z=>u r σ' Z Q
theorem lV:PGs X [] gNil:=by
 intro aj s σ H vs us Q I r h;obtain⟨e,h⟩:=h;subst e;cases r;exact assignInOrder_nil ⟨σ,H,I,h⟩
theorem dZ {e:Expr}{es:List Expr}{t:TG}{u:Rg}(h1:PG X e t)(h2:PGs X es u)
  (hs:(assignEach (e::es) X.env).map (·.2)=assign e X.env::(assignEach es X.env).map (·.2):=by rfl):PGs X (e::es) (gCons t u):=by
 intro aj s σ H vs us Q I r h;obtain⟨v,vr,e1,h⟩:=h;subst e1;cases r with
 |cons r rr=>
  rw[hs];refine assignInOrder_cons (bW (h1 aj s σ H _ _ _ I r h) λ_ s1 ⟨σ1,H1,I1,q1⟩=>?_);exact h2 aj s1 σ1 H1 _ _ Q I1 rr q1
def gTup (K:Frag)(n:Nat)(t:Rg):TG:=λv σ H Q=>∃a xs,v=.ref a/\bR K H a xs/\xs.length=n/\t xs σ H Q
theorem FQ {es:List Expr}{k:Nat}{t:Rg}{n:Nat}(hc:X.calm=true)(h:PGs X es t)
  (hn:(assignEach es X.env).length=n:=by rfl) (hst:(assignEach es X.env).findIdx? (·.1)=none:=by rfl):PG X (.Tuple es k pos) (gTup X.K n t):=by
 intro aj s σ H v u Q I r hw;obtain⟨a,xs,e1,hq,hl,hw⟩:=hw;subst e1;cases r;obtain⟨its,rv,ht,hz⟩:=I.tuple hq;refine assign_Tuple_tuple (I.ok.hd hc) ht (by simp[hn, <-hl,rv.length]) hst λh' hx=>?_;have I1:Inv X aj σ H {s with heap:=h'}:=I.kept (t':=s.toks) λb o e=>hx b o (ne_of_lt (Heap.lt_size e)) e
 exact h aj _ σ H xs _ Q I1 (by simpa using rv) hw
def tAsg (te:TE)(g:TG):TS:=λD σ H=>te σ H λx H1=>g x σ H1 D.nx
theorem ps_set {i:Nat}{x:Str}{e:Expr}{te:TE}{pos':Pos}(hN:X.N.Nodup)(hi:X.N[i]? =some x)(hx:Loc X.env.scope x)(he:PE X e te)(hs:swapsWith e (some (.Name x pos')) pos.line X.env=pure false:=by rfl)(hf:X.fn x=true\/X.env.scope.names.lookup x=some .local:=by first|exact .inl rfl|exact .inr rfl|assumption):
  PS X (.Assign [.Name x pos'] e pos) (tAsg te (pN i)):=by
 intro aj s σ H D I h;refine wpAny_Assign_Name (bW (he aj s σ H _ I h) λv s1 ⟨y,H1,I1,r1,q1⟩=>?_) hs;exact Vc I1 hN hi hx r1 (λs2 I2=>⟨_,H1,I2,q1⟩) hf
end
section
variable {X:Cx}{pos:Pos}
def tWhile (c:TT)(tb:TS):TS:=λD σ H=>∃W:Nat->St->Hp->Prop,(∃m,W m σ H)/\∀m σ H,W m σ H->
 c σ H λb H1=>if b=true then∃N:St->Hp->Prop,(∀σ' Z,N σ' Z->∃m',m'<m/\W m' σ' Z)/\tb {D with nx:=N,ct:=N,bk:=D.nx} σ H1 else D.nx σ H1
theorem qU {c:Expr}{body:List Stmt}{tc:TT}{tb:TS}(hp:PassesOwn (model X.prog X.w) X.A X.env X.xe)(hc:PT X c tc)(hb:zV X body tb):PS X (.While c body [] pos) (tWhile tc tb):=by
 intro aj s σ H D I h;obtain⟨W,⟨m0,w0⟩,turn⟩:=h;refine wpAny_While (codeAny_whileLoop (λn s'=>∃σ' Z,Inv X aj σ' Z s'/\W n σ' Z) ?_ m0 ⟨σ,H,I,w0⟩);rintro n s1 ⟨σ1,H1,I1,w1⟩;refine wpAny_passesOwn hp (bW (hc aj s1 σ1 H1 _ I1 (turn n σ1 H1 w1)) λb s2 ⟨H2,I2,q2⟩=>?_);cases b with
 |true=>
  obtain⟨N,hN,q2⟩:=q2;rw[if_pos rfl];refine wpAny_passesOwn hp (bW (hb aj s2 σ1 H2 _ I2 q2) λf s3 q3=>?_);cases f with
  |next=>
   obtain⟨σ3,H3,I3,n3⟩:=q3;obtain⟨m',hm,w3⟩:=hN σ3 H3 n3;exact⟨m',hm,σ3,H3,I3,w3⟩
  |cont=>
   obtain⟨σ3,H3,I3,n3⟩:=q3;obtain⟨m',hm,w3⟩:=hN σ3 H3 n3;exact⟨m',hm,σ3,H3,I3,w3⟩
  |brk=>exact q3
  |ret v=>exact q3
 |false=>
  rw[if_neg Bool.false_ne_true];exact wpAny_execs_nil ⟨σ1,H2,I2,q2⟩
end
structure It where
 go:Nat->Hp->Prop
 zX:Nat->Hp->V->Hp->Prop
 stop:Nat->Hp->Prop
def ux (X:Cx)(aj:LO0)(H:Hp)(b:Addr):Prop:=
 H b=none/\b≠X.env.locals/\b∉X.fs/\(b∈X.ex\/X.s_0.heap.objs.size<=b)/\(∀x c,X.env.cells.lookup x=some c->c≠b)/\∀p∈X.pn++aj,p.1≠b
theorem Inv.Pz {X:Cx}{aj:LO0}{σ:St}{H Z:Hp}{s:Shared}{b:Addr}(I:Inv X aj σ H s)(hb:s.heap.objs.size<=b)(hn:Z b=none):ux X aj Z b:=by
 refine⟨hn,Nat.ne_of_gt (lt_of_lt_of_le I.lt hb),I.nofs hb,.inr (le_trans I.sz hb),λx c e z=>?_,λp hp z=>?_⟩
 ·obtain⟨v,q⟩:=I.cell x c e;exact absurd (lt_of_lt_of_le q.lt (by rw[z];exact hb)) (lt_irrefl _)
 ·exact absurd (lt_of_lt_of_le (Heap.lt_size (I.pin p hp).1) (by rw[z];exact hb)) (lt_irrefl _)
structure Turn (P:Program)(w:World)(K:Frag)(tg:Expr)(J:It)(fp:List Addr)(it:Addr)(tn:Nat->Heap->Prop):Prop where
 mem:it∈fp
 obj:∀i h,tn i h->∀b∈fp,∃o,h.get? b=some o/\∀v,o.data≠ .cell v
 keep:∀i h h',tn i h->(∀b∈fp,∀o,h.get? b=some o->h'.get? b=some o)->tn i h'
 item:∀(X:Cx),X.prog=P->X.w=w->X.K=K->X.calm=true->∀(i:Nat) (aj:LO0) (s:Shared) (σ:St) (H:Hp) (E:VS0),Inv X aj σ H s->(∀b∈fp,ux X aj H b)->tn i s.heap->J.go i H->
  wpAny (model P w) X.A (pyNext (.ref it)) (λr s1=>∃u,r=some u/\ wpAny (model P w) X.A (letOwnedTupleGo tg (.ref it) u) (λz s2=>∃x Z,Inv X aj σ Z s2/\RelV x u/\J.zX i H x Z/\tn (i+1) s2.heap/\∀b∈fp,Z b=none) E s1) E s
 done:∀(X:Cx),X.prog=P->X.w=w->X.K=K->X.calm=true->∀(i:Nat) (aj:LO0) (s:Shared) (σ:St) (H:Hp) (E:VS0),Inv X aj σ H s->(∀b∈fp,ux X aj H b)->tn i s.heap->J.stop i H->
  wpAny (model P w) X.A (pyNext (.ref it)) (λr s1=>r=none/\Inv X aj σ H s1) E s
 self:∀(A:Around) (i:Nat) (s:Shared) (Q:VS0) (E:VS0),tn i s.heap->Q (.ref it) s->wpAny (model P w) A (pyIter (.ref it)) Q E s
abbrev TI:=St->Hp->(It->Hp->Prop)->Prop
def PIE (X:Cx)(aj:LO0)(σ:St)(tg:Expr)(R:It->Hp->Prop)(itv:Value)(s2:Shared):Prop:=
 ∃(it:Addr) (fp:List Addr) (tn:Nat->Heap->Prop) (J:It) (Z:Hp),itv=.ref it/\Inv X aj σ Z s2/\Turn X.prog X.w X.K tg J fp it tn/\tn 0 s2.heap/\(∀b∈fp,ux X aj Z b)/\R J Z
def PI (X:Cx)(tg iter:Expr)(wi:TI):Prop:=
 ∀(aj:LO0) (s:Shared) (σ:St) (H:Hp) (R:It->Hp->Prop),Inv X aj σ H s->wi σ H R->
  wpAny (model X.prog X.w) X.A (eval iter X.env) (λv s1=>wpAny (model X.prog X.w) X.A (pyIter v) (PIE X aj σ tg R) X.xe s1) X.xe s
theorem Ux {M:Model}{A:Around}{E:VS0}{s:Shared}{tg:Expr}{it:Addr}{u:Value}{o:Obj}{n:String}{vs:Array Value}{Q:Unit->Shared->Prop}(ho:s.heap.get? it=some o)(hc:o.cls=.type n)(hd:o.data=.fields vs)
  (hn:["enumerate","zip","dict_itemiterator","dict_reverseitemiterator","odict_iterator","itertools.zip_longest","itertools.pairwise"].contains n=false) (hQ:Q () s):wpAny M A (letOwnedTupleGo tg (.ref it) u) Q E s:=by
 unfold letOwnedTupleGo;cases tg<;>first
  |exact wpAny_pure hQ
  |(cases u<;>first
    |exact wpAny_pure hQ
    |(refine wpAny_bind (wpAny_load ho ?_)
      rw[hc,hd];show wpAny M A (if (["enumerate","zip","dict_itemiterator","dict_reverseitemiterator","odict_iterator","itertools.zip_longest","itertools.pairwise"].contains n&&vs[0]? == some (rawInt _))=true then _ else _) Q E s;rw[if_neg (by intro h;rw[hn,Bool.false_and] at h;cases h)];exact wpAny_pure hQ))
def MJ (K:Frag)(a:Addr):It:=
 ⟨λi H=>∃xs x,aF K H a xs/\xs[i]? =some x,λi H x Z=>Z=H/\∀xs,aF K H a xs->xs[i]? =some x,λi H=>∃xs,aF K H a xs/\xs.length<=i⟩
def DY (lo:Int)(n:Nat):It:=⟨λi z=>i<n,λi H x Z=>Z=H/\x=.int (lo+i),λi z=>n<=i⟩
theorem turn_list {P:Program}{w:World}{K:Frag}{tg:Expr}(a it:Addr):Turn P w K tg (MJ K a) [it] it (λi h=>h.IsListIter it a i) where
 mem:=by simp
 obj:=λi h st b hb=>by
  have e:b=it:=by simpa using hb
  subst e;obtain⟨o,e,c,d⟩:=st;exact⟨o,e,λv z=>by rw[d] at z;cases z⟩
 keep:=λi h h' st k=>st.at λo e=>k it (by simp) o e
 item:=by
  intro X hP hw hK hc i aj s σ H E I hf st hg;subst hP hw hK;obtain⟨xs,x,hq,hx⟩:=hg;obtain⟨its,rv,p,hz⟩:=I.list hq;obtain⟨u,hu,ru⟩:=rv.get hx;obtain⟨f0,f1,f2,f3,f4,f5⟩:=hf it (by simp);refine wpAny_pyNext_list_item st p.isList (x:=u) (by simpa using hu) λh' st' sb=>?_;have I1:Inv X aj σ H {s with heap:=h'}:=I.turned (t':=s.toks) (λb o hb e=>(sb.2 b hb).trans e) f0 f1 f3 f4 f5
  obtain⟨o,e,c,d⟩:=id st';exact⟨u,rfl,Ux (s:={s with heap:=h'}) e c d (by decide) ⟨x,H,I1,ru,⟨rfl,λys hy=>by rw[I.vV hy hq];exact hx⟩,st',λb hb=>(hf b hb).1⟩⟩
 done:=by
  intro X hP hw hK hc i aj s σ H E I hf st hg;subst hP hw hK;obtain⟨xs,hq,hx⟩:=hg;obtain⟨its,rv,p,hz⟩:=I.list hq;obtain⟨f0,f1,f2,f3,f4,f5⟩:=hf it (by simp);have hl:=rv.length;exact wpAny_pyNext_list_end (I.ok.hd hc) st p.isList (by simp;lia) λh' eb=>⟨rfl,I.turned (t':=s.toks) (λb o hb e=>eb b o hb e) f0 f1 f3 f4 f5⟩
 self:=λy y y y y st h=>wpAny_pyIter_listiter st h
theorem turn_range {P:Program}{w:World}{K:Frag}{tg:Expr}(it:Addr)(lo:Int)(n:Nat):Turn P w K tg (DY lo n) [it] it (λi h=>IsRangeIter h it (lo+(i:Nat)*1) ((n:Int)-(i:Nat)) 1) where
 mem:=by simp
 obj:=λi h st b hb=>by
  have e:b=it:=by simpa using hb
  subst e;exact⟨_,st,λv z=>by
   have z':Data.fields _=Data.cell v:=z;cases z'⟩
 keep:=λi h h' st k=>k it (by simp) _ st
 item:=by
  intro X hP hw hK hc i aj s σ H E I hf st hg;subst hP hw hK;obtain⟨f0,f1,f2,f3,f4,f5⟩:=hf it (by simp);have W:=Walks.range (prog:=X.prog) (w:=X.w) (I.ok.hd hc) it lo 1 n;refine W.item i s _ _ hg st λv h' tk hv st' kk=>?_;obtain⟨t,rfl⟩:=hv;have I1:Inv X aj σ H {s with heap:=h',toks:=tk}:=I.turned (λb o hb e=>kk b o (by simpa using hb) e) f0 f1 f3 f4 f5
  refine⟨_,rfl,Ux (s:={s with heap:=h',toks:=tk}) (n:="range_iterator") st' rfl rfl (by decide) ⟨.int (lo+i),H,I1,⟨t,?_⟩,⟨rfl,rfl⟩,st',λb hb=>(hf b hb).1⟩⟩
  rw[Int.mul_one]
 done:=by
  intro X hP hw hK hc i aj s σ H E I hf st hg;subst hP hw hK;obtain⟨f0,f1,f2,f3,f4,f5⟩:=hf it (by simp);exact wpAny_pyNext_range_end (I.ok.hd hc) st (by have:n<=i:=hg;lia) λh' eb=>⟨rfl,I.turned (t':=s.toks) (λb o hb e=>eb b o hb e) f0 f1 f3 f4 f5⟩
 self:=λy y y y y st h=>wpAny_pyIter_rangeiter st h
end L2
namespace L2
section
variable {X:Cx}{tg:Expr}
def iList (K:Frag)(tl:TE):TI:=λσ H R=>tl σ H λx H1=>∃a,x=.ref a/\(∃xs,aF K H1 a xs)/\R (MJ K a) H1
theorem fj {l:Expr}{tl:TE}(hl:PE X l tl):PI X tg l (iList X.K tl):=by
 intro aj s σ H R I h;refine bW (hl aj s σ H _ I h) λv s1 ⟨x,H1,I1,r1,q1⟩=>?_;obtain⟨a,e,⟨xs,hq⟩,q⟩:=q1;subst e;cases r1;obtain⟨its,rv,p,hz⟩:=I1.list hq;refine wpAny_pyIter_list p.isList ?_;refine⟨s1.heap.objs.size,[s1.heap.objs.size],_,_,H1,rfl,I1.kept (t':=s1.toks) λb o e=>Heap.get?_push_of_some _ e,turn_list a _,⟨_,Heap.get?_push_size _ rfl,rfl,rfl⟩,λb hb=>?_,q⟩;have e:b=s1.heap.objs.size:=by simpa using hb
 subst e;exact I1.Pz (Nat.le_refl _) (I1.hok.fresh (Nat.le_refl _))
theorem Vg {aj:LO0}{σ:St}{H:Hp}{s:Shared}{R:It->Hp->Prop}{E:VS0}{lo hi:Int}{t u v:Tok}{tk:Nat}(I:Inv X aj σ H s)(h1: -(2^62)<=lo)(h2:lo<2^62)(h3: -(2^62)<=hi)(h4:hi<2^62)
  (q:R (DY lo (hi-lo).toNat) H):wpAny (model X.prog X.w) X.A (pyIter (.ref s.heap.objs.size)) (PIE X aj σ tg R) E {s with heap:=s.heap.push {cls:=.type "range",data:=.fields #[.int lo t,.int hi u,.int 1 v]},toks:=tk}:=by
 refine wpAny_pyIter_range (IsRange.new ..) (small_one h1 h2 h3 h4) ?_;have I1:Inv X aj σ H {s with heap:=s.heap.push {cls:=.type "range",data:=.fields #[.int lo t,.int hi u,.int 1 v]},toks:=tk}:=I.kept λb o e=>Heap.get?_push_of_some _ e
 refine⟨(s.heap.push {cls:=.type "range",data:=.fields #[.int lo t,.int hi u,.int 1 v]}).objs.size,[(s.heap.push {cls:=.type "range",data:=.fields #[.int lo t,.int hi u,.int 1 v]}).objs.size],_,_,H,rfl, I1.kept (t':=tk) λb o e=>Heap.get?_push_of_some _ e,turn_range _ lo (hi-lo).toNat,?_,λb hb=>?_,q⟩
 ·have e1:lo+((0:Nat):Int)*1=lo:=by simp
  have e2:(((hi-lo).toNat:Nat):Int)-((0:Nat):Int)=Builtin.Range.rangeSize lo hi 1:=by rw[rangeSize_one];split<;>lia
  show IsRangeIter _ _ (lo+((0:Nat):Int)*1) ((((hi-lo).toNat:Nat):Int)-((0:Nat):Int)) 1;rw[e1,e2];exact Heap.get?_push_size _ rfl
 ·have e:b=(s.heap.push {cls:=.type "range",data:=.fields #[.int lo t,.int hi u,.int 1 v]}).objs.size:=by simpa using hb
  subst e;exact I1.Pz (Nat.le_refl _) (I1.hok.fresh (Nat.le_refl _))
def iRng1 (ta:TA):TI:=λσ H R=>ta σ H λvs H1=>∃j:Int,vs=[.int j]/\ -(2^62)<=j/\j<2^62/\R (DY 0 j.toNat) H1
def iRng2 (ta:TA):TI:=λσ H R=>ta σ H λvs H1=>∃i j:Int,vs=[.int i,.int j]/\(-(2^62)<=i/\i<2^62/\ -(2^62)<=j/\j<2^62)/\R (DY i (j-i).toNat) H1
theorem lE {a:Expr}{ta:TA}{p pos:Pos}(hg:Gl X "range")(hm:X.mg "range"=none)(ha:PA X [a] ta)(hs:starEach [a] X.env=[(false,eval a X.env)]:=by rfl):PI X tg (.Call (.Name "range" p) [a] [] pos) (iRng1 ta):=by
 intro aj s σ H R I h;refine Call_ (pK I hg hm boot_range (PyProof.Rows.callWith_type1 (bW (ha pos aj s σ H _ I h) λus s1 ⟨vs,H1,I1,r1,q1⟩=>?_) hs rfl));obtain⟨j,e,q1,q2,q⟩:=q1;subst e;cases r1 with
 |cons r rr=>
  cases rr;obtain⟨t,rfl⟩:=r;exact call_range_1 (Vg I1 (by lia) (by lia) q1 q2 (by simpa using q))
theorem pi_range2 {a b:Expr}{ta:TA}{p pos:Pos}(hg:Gl X "range")(hm:X.mg "range"=none)(ha:PA X [a,b] ta)(hs:starEach [a,b] X.env=[(false,eval a X.env),(false,eval b X.env)]:=by rfl)(hs2:starEach [b] X.env=[(false,eval b X.env)]:=by rfl):
  PI X tg (.Call (.Name "range" p) [a,b] [] pos) (iRng2 ta):=by
 intro aj s σ H R I h;refine Call_ (pK I hg hm boot_range (PyProof.Rows.callWith_type1 (bW (ha pos aj s σ H _ I h) λus s1 ⟨vs,H1,I1,r1,q1⟩=>?_) (by rw[hs,hs2]) (by rw[hs2];rfl)));obtain⟨i,j,e,⟨q1,q2,q3,q4⟩,q⟩:=q1;subst e;cases r1 with
 |cons r rr=>
  cases rr with
  |cons r' rr=>
   cases rr;obtain⟨t,rfl⟩:=r;obtain⟨t',rfl⟩:=r';exact call_range_2 (Vg I1 q1 q2 q3 q4 q)
def tFor (wi:TI)(g:TG)(tb:TS):TS:=λD σ H=>wi σ H λJ H1=>∃W:Nat->Nat->St->Hp->Prop,(∃m,W 0 m σ H1)/\∀i m σ H,W i m σ H->
 (J.stop i H/\D.nx σ H)\/(J.go i H/\∃N:St->Hp->Prop,(∀σ' Z,N σ' Z->∃m',m'<m/\W (i+1) m' σ' Z)/\∀x Z,J.zX i H x Z->g x σ Z λσ2 H2=>tb {D with nx:=N,ct:=N,bk:=D.nx} σ2 H2)
def FT (fp:List Addr)(h:Heap):LO0:=fp.filterMap λb=>(h.get? b).map λo=>(b,o)
theorem Ca {fp:List Addr}{h:Heap}{b:Addr}{o:Obj}(hb:b∈fp)(e:h.get? b=some o):(b,o)∈FT fp h:=List.mem_filterMap.mpr ⟨b,hb,by rw[e];rfl⟩
theorem of_pinsAt {fp:List Addr}{h:Heap}{p:Addr×Obj}(hp:p∈FT fp h):p.1∈fp/\h.get? p.1=some p.2:=by
 obtain⟨b,hb,e⟩:=List.mem_filterMap.mp hp;cases q:h.get? b with
 |none=>rw[q] at e;cases e
 |some o=>
  rw[q] at e;have e':(b,o)=p:=Option.some.inj e;subst e';exact⟨hb,q⟩
theorem Inv.pinned {aj:LO0}{σ:St}{H:Hp}{s:Shared}{fp:List Addr}(I:Inv X aj σ H s)(hf:∀b∈fp,ux X aj H b)(ho:∀b∈fp,∃o,s.heap.get? b=some o/\∀v,o.data≠ .cell v):Inv X (aj++FT fp s.heap) σ H s:=
 I.YT λp hp=>(mem_append.mp hp).elim (λz=>I.pin p (mem_append_right _ z)) λz=>by
  obtain⟨hb,e⟩:=of_pinsAt z;obtain⟨f0,f1,f2,_⟩:=hf p.1 hb;obtain⟨o,e',d⟩:=ho p.1 hb;rw[e] at e';cases e';exact⟨e,f0,f1,f2,d⟩
theorem Inv.Cd {aj pl:LO0}{σ:St}{H:Hp}{s:Shared}(I:Inv X (aj++pl) σ H s):Inv X aj σ H s:=I.YT λp hp=>I.pin p (mem_append_right _ (List.mem_append_left _ hp))
theorem fB {iter:Expr}{body:List Stmt}{wi:TI}{g:TG}{tb:TS}{pos:Pos}(hp:PassesOwn (model X.prog X.w) X.A X.env X.xe)(hc:X.calm=true)(hi:PI X tg iter wi)(hg:PG X tg g)(hb:zV X body tb)
  (hs:∀x,foldedSetIterable iter X.env x=pure x:=by intro _;rfl):PS X (.For tg iter body [] pos) (tFor wi g tb):=by
 intro aj s σ H D I h;refine wpAny_For (bW (hi aj s σ H _ I h) λv s1 h1=>bW h1 λitv s2 h2=>?_) hs;obtain⟨it,fp,tn,J,H2,e,I2,T,st2,f2,W,⟨m0,w0⟩,turn⟩:=h2;subst e;have stat:∀{Z:Hp},(∀b∈fp,Z b=none)->∀b∈fp,ux X aj Z b:=λhn b hb=>⟨hn b hb,(f2 b hb).2⟩;refine codeAny_forLoop_any (λn s'=>∃i σ' Z,Inv X aj σ' Z s'/\tn i s'.heap/\(∀b∈fp,Z b=none)/\W i n σ' Z) ?_ m0 ⟨0,σ,H2,I2,st2,λb hb=>(f2 b hb).1,w0⟩;rintro n s3 ⟨i,σ3,H3,I3,st3,fr3,w3⟩;rcases turn i n σ3 H3 w3 with⟨stop,qn⟩|⟨go,N,hN,step⟩
 ·refine wpAny_passesOwn hp (bW (T.done X rfl rfl rfl hc i aj s3 σ3 H3 X.xe I3 (stat fr3) st3 stop) λr s4 ⟨hr,I4⟩=>?_);subst hr;exact wpAny_execs_nil ⟨σ3,H3,I4,qn⟩
 ·refine wpAny_passesOwn hp (bW (T.item X rfl rfl rfl hc i aj s3 σ3 H3 X.xe I3 (stat fr3) st3 go) λr s4 ⟨u,hr,h4⟩=>?_);subst hr;refine wpAny_passesOwn hp (bW h4 λ_ s5 ⟨x,H5,I5,r5,y5,st5,fr5⟩=>?_);have I5':=I5.pinned (stat fr5) (T.obj _ _ st5);refine wpAny_passesOwn hp (bW (hg _ s5 σ3 H5 x u _ I5' r5 (step x H5 y5)) λ_ s6 ⟨σ6,H6,I6,q6⟩=>?_);refine wpAny_passesOwn hp (bW (hb _ s6 σ6 H6 _ I6 q6) λf s7 q7=>?_);have again:∀{σ7:St}{H7:Hp},Inv X (aj++FT fp s5.heap) σ7 H7 s7->N σ7 H7->∃m,m<n/\∃i σ' Z,Inv X aj σ' Z s7/\tn i s7.heap/\(∀b∈fp,Z b=none)/\W i m σ' Z:=λ{σ7 H7} I7 n7=>by
   obtain⟨m',hm,w7⟩:=hN σ7 H7 n7;refine⟨m',hm,i+1,σ7,H7,I7.Cd,T.keep _ _ _ st5 λb hb o e=>(I7.pin (b,o) (mem_append_right _ (mem_append_right _ (Ca hb e)))).1,λb hb=>?_,w7⟩;obtain⟨o,e,d⟩:=T.obj _ _ st5 b hb;exact(I7.pin (b,o) (mem_append_right _ (mem_append_right _ (Ca hb e)))).2.1
  cases f with
  |next=>obtain⟨σ7,H7,I7,n7⟩:=q7;exact again I7 n7
  |cont=>obtain⟨σ7,H7,I7,n7⟩:=q7;exact again I7 n7
  |brk=>obtain⟨σ7,H7,I7,q7⟩:=q7;exact⟨σ7,H7,I7.Cd,q7⟩
  |ret v=>obtain⟨x7,σ7,H7,I7,r7,q7⟩:=q7;exact⟨x7,σ7,H7,I7.Cd,r7,q7⟩
end
theorem iU {K:Frag}{a:Addr}{xs:List V}{g:TG}{tb:TS}{D:Ends}{σ:St}{H:Hp}(Pv:Nat->St->Hp->Prop)(h0:Pv 0 σ H)(hl:∀i σ H,i<=xs.length->Pv i σ H->aF K H a xs)
  (hs:∀i x σ H,xs[i]? =some x->Pv i σ H->g x σ H λσ2 H2=>tb {D with nx:=Pv (i+1),ct:=Pv (i+1),bk:=D.nx} σ2 H2) (hd:∀σ H,Pv xs.length σ H->D.nx σ H):
  ∃W:Nat->Nat->St->Hp->Prop,(∃m,W 0 m σ H)/\∀i m σ H,W i m σ H->
   ((MJ K a).stop i H/\D.nx σ H)\/((MJ K a).go i H/\∃N:St->Hp->Prop,(∀σ' Z,N σ' Z->∃m',m'<m/\W (i+1) m' σ' Z)/\∀x Z,(MJ K a).zX i H x Z->g x σ Z λσ2 H2=>tb {D with nx:=N,ct:=N,bk:=D.nx} σ2 H2):=by
 refine⟨λi m σ H=>m=xs.length-i/\i<=xs.length/\Pv i σ H,⟨xs.length,by simp,zero_le _,h0⟩,?_⟩;rintro i m σ H ⟨rfl,hi,p⟩;have q:=hl i σ H hi p;by_cases hlt:i<xs.length
 ·refine .inr ⟨⟨xs,xs[i],q,by simp[hlt]⟩,Pv (i+1),λσ' Z p'=>⟨xs.length-(i+1),by lia,rfl,hlt,p'⟩,λx Z y=>?_⟩;obtain⟨e,y⟩:=y;subst e;exact hs i x σ _ (y xs q) p
 ·have e:i=xs.length:=by lia
  subst e;exact .inl ⟨⟨xs,q,Nat.le_refl _⟩,hd σ H p⟩
theorem yc {lo:Int}{n:Nat}{g:TG}{tb:TS}{D:Ends}{σ:St}{H:Hp}(Pv:Nat->St->Hp->Prop)(h0:Pv 0 σ H)
  (hs:∀i σ H,i<n->Pv i σ H->g (.int (lo+i)) σ H λσ2 H2=>tb {D with nx:=Pv (i+1),ct:=Pv (i+1),bk:=D.nx} σ2 H2) (hd:∀σ H,Pv n σ H->D.nx σ H):
  ∃W:Nat->Nat->St->Hp->Prop,(∃m,W 0 m σ H)/\∀i m σ H,W i m σ H->
   ((DY lo n).stop i H/\D.nx σ H)\/((DY lo n).go i H/\∃N:St->Hp->Prop,(∀σ' Z,N σ' Z->∃m',m'<m/\W (i+1) m' σ' Z)/\∀x Z,(DY lo n).zX i H x Z->g x σ Z λσ2 H2=>tb {D with nx:=N,ct:=N,bk:=D.nx} σ2 H2):=by
 refine⟨λi m σ H=>m=n-i/\i<=n/\Pv i σ H,⟨n,by simp,zero_le _,h0⟩,?_⟩;rintro i m σ H ⟨rfl,hi,p⟩;by_cases hlt:i<n
 ·refine .inr ⟨hlt,Pv (i+1),λσ' Z p'=>⟨n-(i+1),by lia,rfl,hlt,p'⟩,λx Z y=>?_⟩;obtain⟨e,y⟩:=y;subst e y;exact hs i σ _ hlt p
 ·have e:i=n:=by lia
  subst e;exact .inl ⟨Nat.le_refl _,hd σ H p⟩
theorem qW {c:TT}{tb:TS}{D:Ends}{σ:St}{H:Hp}(Pv:St->Hp->Prop)(μ:St->Hp->Nat)(h0:Pv σ H)
  (hs:∀σ H,Pv σ H->c σ H λb H1=>if b=true then tb {D with nx:=λσ' Z=>Pv σ' Z/\μ σ' Z<μ σ H,ct:=λσ' Z=>Pv σ' Z/\μ σ' Z<μ σ H,bk:=D.nx} σ H1 else D.nx σ H1)
  (mono:∀σ H Q Q',(∀b H1,Q b H1->Q' b H1)->c σ H Q->c σ H Q'):tWhile c tb D σ H:=by
 refine⟨λm σ H=>m=μ σ H/\Pv σ H,⟨_,rfl,h0⟩,?_⟩;rintro m σ H ⟨rfl,p⟩;refine mono σ H _ _ (λb H1 q=>?_) (hs σ H p);cases b with
 |true=>exact⟨_,λσ' Z ⟨p',l⟩=>⟨_,l,rfl,p'⟩,q⟩
 |false=>exact q
end L2
namespace L2
abbrev R2:=V->V->Hp->VK->Prop
def jk (X:Cx)(f:Value->Value->Sem Value)(r:R2):Prop:=
 ∀(aj:LO0) (s:Shared) (σ:St) (H:Hp) (x y:V) (v u:Value) (Q:VK),Inv X aj σ H s->RelV x v->RelV y u->r x y H Q->
  wpAny (model X.prog X.w) X.A (f v u) (EP X aj σ Q) X.xe s
def UnR (X:Cx)(f:Value->Sem Value)(r:V->Hp->VK->Prop):Prop:=
 ∀(aj:LO0) (s:Shared) (σ:St) (H:Hp) (x:V) (v:Value) (Q:VK),Inv X aj σ H s->RelV x v->r x H Q->
  wpAny (model X.prog X.w) X.A (f v) (EP X aj σ Q) X.xe s
def Ce (X:Cx)(f:Value)(r:List V->Hp->VK->Prop):Prop:=
 ∀(aj:LO0) (s:Shared) (σ:St) (H:Hp) (xs:List V) (us:List Value) (Q:VK),Inv X aj σ H s->Vals xs us->r xs H Q->
  wpAny (model X.prog X.w) X.A (call f us) (EP X aj σ Q) X.xe s
def TruR (X:Cx)(r:V->Hp->(Bool->Hp->Prop)->Prop):Prop:=
 ∀(aj:LO0) (s:Shared) (σ:St) (H:Hp) (x:V) (v:Value) (Q:Bool->Hp->Prop),Inv X aj σ H s->RelV x v->r x H Q->
  wpAny (model X.prog X.w) X.A (truthy v) (TP X aj σ Q) X.xe s
def tOp (r:R2)(ta tb:TE):TE:=λσ H Q=>ta σ H λx H1=>tb σ H1 λy H2=>r x y H2 Q
def tUn (r:V->Hp->VK->Prop)(ta:TE):TE:=λσ H Q=>ta σ H λx H1=>r x H1 Q
def rI (C:Int->Int->Prop)(g:Int->Int->V):R2:=λx y H Q=>∃i j,x=.int i/\y=.int j/\C i j/\Q (g i j) H
def Kg (g:Int->Int->V):R2:=λx y H Q=>∃i j,x=.int i/\y=.int j/\Q (g i j) H
def rU (g:Int->V):V->Hp->VK->Prop:=λx H Q=>∃i,x=.int i/\Q (g i) H
section
variable {X:Cx}{a b c:Expr}{ta tb tc:TE}{pos:Pos}
theorem binT (ha:PE X a ta)(hb:PE X b tb){aj:LO0}{s:Shared}{σ:St}{H:Hp}{R:V->V->Hp->Prop}(I:Inv X aj σ H s)
  (h:ta σ H λx H1=>tb σ H1 λy H2=>R x y H2) {Q:VS0}{f:Value->Value->Sem Value}
  (hf:∀v u s2 x y H2,Inv X aj σ H2 s2->RelV x v->RelV y u->R x y H2->wpAny (model X.prog X.w) X.A (f v u) Q X.xe s2):
  wpAny (model X.prog X.w) X.A (eval a X.env) (λv s₁=>wpAny (model X.prog X.w) X.A (eval b X.env) (λu s₂=>wpAny (model X.prog X.w) X.A (f v u) Q X.xe s₂) X.xe s₁) X.xe s:=by
 refine bW (ha aj s σ H _ I h) λv s1 ⟨x,H1,I1,r1,q1⟩=>?_;refine bW (hb aj s1 σ H1 _ I1 q1) λu s2 ⟨y,H2,I2,r2,q2⟩=>?_;exact hf v u s2 x y H2 I2 r1 r2 q2
theorem bD {op:Operator}{r:R2}(ho:jk X (binaryOp op) r)(ha:PE X a ta)(hb:PE X b tb):PE X (.BinOp a op b pos) (tOp r ta tb):=by
 intro aj s σ H Q I h;exact wpAny_BinOp (binT ha hb I h λv u s2 x y H2 I2 rx ry q=>ho aj s2 σ H2 x y v u Q I2 rx ry q)
theorem nM {op:UnaryOp}{r:V->Hp->VK->Prop}(ho:UnR X (unaryOp op) r)(ha:PE X a ta):PE X (.UnaryOp op a pos) (tUn r ta):=by
 intro aj s σ H Q I h;exact UnaryOp_ (bW (ha aj s σ H _ I h) λv s1 ⟨x,H1,I1,r1,q1⟩=>ho aj s1 σ H1 x v Q I1 r1 q1)
theorem Vh {f:Value->Value->Sem Value}{C:Int->Int->Prop}{g:Int->Int->Int}
  (rule:∀(i j:Int) (t u:Tok) (s:Shared) (Q:VS0) (E:VS0),C i j->Q (.int (g i j) s.toks) {s with toks:=s.toks+1}->wpAny (model X.prog X.w) X.A (f (.int i t) (.int j u)) Q E s):
  jk X f (rI C λi j=>.int (g i j)):=by
 intro aj s σ H x y v u Q I rx ry h;obtain⟨i,j,rfl,rfl,hc,q⟩:=h;obtain⟨t,rfl⟩:=rx;obtain⟨t',rfl⟩:=ry;exact rule i j t t' s _ _ hc ⟨.int (g i j),H,I.tok _,⟨_,rfl⟩,q⟩
theorem Vi {f:Value->Value->Sem Value}{g:Int->Int->Int}
  (rule:∀(i j:Int) (t u:Tok) (s:Shared) (Q:VS0) (E:VS0),Q (.int (g i j) s.toks) {s with toks:=s.toks+1}->wpAny (model X.prog X.w) X.A (f (.int i t) (.int j u)) Q E s):
  jk X f (Kg λi j=>.int (g i j)):=by
 intro aj s σ H x y v u Q I rx ry h;obtain⟨i,j,rfl,rfl,q⟩:=h;obtain⟨t,rfl⟩:=rx;obtain⟨t',rfl⟩:=ry;exact rule i j t t' s _ _ ⟨.int (g i j),H,I.tok _,⟨_,rfl⟩,q⟩
theorem opB0 {f:Value->Value->Sem Value}{g:Int->Int->Bool}
  (rule:∀(i j:Int) (t u:Tok) (s:Shared) (Q:VS0) (E:VS0),Q (.bool (g i j)) s->wpAny (model X.prog X.w) X.A (f (.int i t) (.int j u)) Q E s):
  jk X f (Kg λi j=>.bl (g i j)):=by
 intro aj s σ H x y v u Q I rx ry h;obtain⟨i,j,rfl,rfl,q⟩:=h;obtain⟨t,rfl⟩:=rx;obtain⟨t',rfl⟩:=ry;exact rule i j t t' s _ _ ⟨.bl (g i j),H,I,rfl,q⟩
def CDiv (i j:Int):Prop:=0<j/\j<1073741824
def CPow (i j:Int):Prop:=0<=j/\j<=1000000/\i.natAbs<2^64
def zj (i j:Int):Prop:=(-(2^64)<i/\i<2^64)\/(-(2^64)<j/\j<2^64)
theorem zj.ok {i j:Int}(h:zj i j):IntMulOk i j:=by
 rcases h with⟨h1,h2⟩|⟨h1,h2⟩
 ·exact .of_left (intBits_le_64 h1 h2)
 ·exact .of_right (intBits_le_64 h1 h2)
theorem two_pow_nn (k:Nat):(0:Int)<=2^k:=by
 rw[two_pow_cast];exact natCast_nonneg _
theorem jD:jk X (binaryOp .Add) (Kg λi j=>.int (i+j)):=Vi λz z z z z z z q=>add_int q
theorem lF:jk X (binaryOp .Sub) (Kg λi j=>.int (i-j)):=Vi λz z z z z z z q=>sub_int q
theorem mZ:jk X (binaryOp .Mult) (rI zj λi j=>.int (i*j)):=Vh λz z z z z z z hc q=>mul_int q hc.ok
theorem YZ:jk X (binaryOp .FloorDiv) (rI CDiv λi j=>.int (i/j)):=Vh λi j z z z z z hc q=>by
 have h1:(0:Int)<j:=hc.1;have h2:j<1073741824:=hc.2;exact floordiv_int (by lia) (by rw[Int.fdiv_eq_ediv_of_nonneg i (by lia)];exact q) (.inl (PyProof.noPylong_small (by lia)))
theorem zY:jk X (binaryOp .Mod) (rI (λz j=>0<j) λi j=>.int (i%j)):=Vh λi j z z z z z hc q=>by
 have h1:(0:Int)<j:=hc;exact mod_int' (by lia) (by rw[Int.fmod_eq_emod_of_nonneg i (by lia)];exact q)
theorem op_shl:jk X (binaryOp .LShift) (rI CPow λi j=>.int (i*2^j.toNat)):=Vh λz z z z z z z hc q=>lshift_int_small hc.1 hc.2.1 hc.2.2 q
theorem zZ:jk X (binaryOp .RShift) (rI (λz j=>0<=j) λi j=>.int (i/2^j.toNat)):=Vh λi j z z z z z hc q=>
 rshift_int hc (by rw[Int.fdiv_eq_ediv_of_nonneg i (two_pow_nn _)];exact q)
theorem vW:jk X (binaryOp .BitAnd) (Kg λi j=>.int (Builtin.bitAnd i j)):=Vi λz z z z z z z q=>and_int q
theorem op_or:jk X (binaryOp .BitOr) (Kg λi j=>.int (Builtin.bitOr i j)):=Vi λz z z z z z z q=>or_int q
theorem pO:jk X (binaryOp .BitXor) (Kg λi j=>.int (Builtin.bitXor i j)):=Vi λz z z z z z z q=>xor_int q
theorem unI {f:Value->Sem Value}{g:Int->Int}
  (rule:∀(i:Int) (t:Tok) (s:Shared) (Q:VS0) (E:VS0),Q (.int (g i) s.toks) {s with toks:=s.toks+1}->wpAny (model X.prog X.w) X.A (f (.int i t)) Q E s):
  UnR X f (rU λi=>.int (g i)):=by
 intro aj s σ H x v Q I rx h;obtain⟨i,rfl,q⟩:=h;obtain⟨t,rfl⟩:=rx;exact rule i t s _ _ ⟨.int (g i),H,I.tok _,⟨_,rfl⟩,q⟩
theorem j5:UnR X (unaryOp .USub) (rU λi=>.int (-i)):=unI λz z z z z q=>neg_int q
end
section
variable {X:Cx}{a b c:Expr}{ta tb tc:TE}{pos:Pos}
theorem op_lt:jk X (compareOp .Lt) (Kg λi j=>.bl (decide (i<j))):=opB0 λz z z z z z z q=>lt_int q
theorem Uy:jk X (compareOp .LtE) (Kg λi j=>.bl (decide (i<=j))):=opB0 λz z z z z z z q=>le_int q
theorem MK (b:Expr){op:CmpOp}(h:op≠ .In:=by decide)(h2:op≠ .NotIn:=by decide):behindInMarks op b=false:=by
 have e1:(op == CmpOp.In)=false:=by cases op<;>first|rfl|exact absurd rfl h
 have e2:(op == CmpOp.NotIn)=false:=by cases op<;>first|rfl|exact absurd rfl h2
 cases b<;>simp[behindInMarks,e1,e2]
theorem PB {op:CmpOp}{r:R2}(ho:jk X (compareOp op) r)(ha:PE X a ta)(hb:PE X b tb)(hm:behindInMarks op b=false):PE X (.Compare a [op] [b] pos) (tOp r ta tb):=by
 intro aj s σ H Q I h;exact wpAny_Compare1 (binT ha hb I h λv u s2 x y H2 I2 rx ry q=>ho aj s2 σ H2 x y v u Q I2 rx ry q) hm
def tTest (t:TE):TT:=λσ H Q=>t σ H λx Z=>∃k,x=.bl k/\Q k Z
theorem Y4 {op:CmpOp}{r:R2}(ho:jk X (compareOp op) r)(ha:PE X a ta)(hb:PE X b tb)(hm:behindInMarks op b=false):PT X (.Compare a [op] [b] pos) (tTest (tOp r ta tb)):=by
 intro aj s σ H Q I h;refine wpAny_isTrue_Compare1 (bW (ha aj s σ H _ I h) λv s1 ⟨x,H1,I1,r1,q1⟩=>bW (hb aj s1 σ H1 _ I1 q1) λu s2 ⟨y,H2,I2,r2,q2⟩=> bW (ho aj s2 σ H2 x y v u _ I2 r1 r2 q2) λc s3 ⟨z,H3,I3,r3,k,e,q3⟩=>?_) hm;subst e;cases r3;exact wpAny_truthy_bool ⟨H3,I3,q3⟩
def Vj (r r':R2)(ta tb tc:TE):TE:=λσ H Q=>ta σ H λx H1=>tb σ H1 λy H2=>r x y H2 λz H3=>∃k,z=.bl k/\
 (if k=true then tc σ H3 λw' H4=>r' y w' H4 Q else Q (.bl false) H3)
theorem Vk {op op':CmpOp}{r r':R2}(ho:jk X (compareOp op) r)(ho':jk X (compareOp op') r')(ha:PE X a ta)(hb:PE X b tb)(hc:PE X c tc)
  (hm:lastMarks [op,op'] [b,c]=false:=by with_unfolding_all rfl):PE X (.Compare a [op,op'] [b,c] pos) (Vj r r' ta tb tc):=by
 intro aj s σ H Q I h;refine Compare_chain (bW (ha aj s σ H _ I h) λv s1 ⟨x,H1,I1,r1,q1⟩=>chain_link (bW (hb aj s1 σ H1 _ I1 q1) λu s2 ⟨y,H2,I2,r2,q2⟩=> bW (ho aj s2 σ H2 x y v u _ I2 r1 r2 q2) λd s3 ⟨z,H3,I3,r3,k,e,q3⟩=>?_)) hm;subst e;cases r3;refine wpAny_truthy_bool ?_;cases k with
 |false=>exact ite_ff ⟨.bl false,H3,I3,rfl,q3⟩
 |true=>exact ite_tt (chain_last (bW (hc aj s3 σ H3 _ I3 q3) λw' s4 ⟨z',H4,I4,r4,q4⟩=>ho' aj s4 σ H4 y z' u w' Q I4 r2 r4 q4))
theorem pt_chain {op op':CmpOp}{r r':R2}(ho:jk X (compareOp op) r)(ho':jk X (compareOp op') r')(ha:PE X a ta)(hb:PE X b tb)(hc:PE X c tc)
  (hm:lastMarks [op,op'] [b,c]=false:=by with_unfolding_all rfl):PT X (.Compare a [op,op'] [b,c] pos) (tTest (Vj r r' ta tb tc)):=by
 intro aj s σ H Q I h;refine isTrue_chain (bW (ha aj s σ H _ I h) λv s1 ⟨x,H1,I1,r1,q1⟩=>test_link (bW (hb aj s1 σ H1 _ I1 q1) λu s2 ⟨y,H2,I2,r2,q2⟩=> bW (ho aj s2 σ H2 x y v u _ I2 r1 r2 q2) λd s3 ⟨z,H3,I3,r3,k,e,q3⟩=>?_)) hm;subst e;cases r3;refine wpAny_truthy_bool ?_;cases k with
 |false=>
  obtain⟨k',e',q'⟩:=q3;cases e';exact ite_ff ⟨H3,I3,q'⟩
 |true=>
  refine ite_tt (test_last (bW (hc aj s3 σ H3 _ I3 q3) λw' s4 ⟨z',H4,I4,r4,q4⟩=>bW (ho' aj s4 σ H4 y z' u w' _ I4 r2 r4 q4) λd' s5 ⟨z2,H5,I5,r5,k2,e2,q5⟩=>?_));subst e2;cases r5;exact wpAny_truthy_bool ⟨H5,I5,q5⟩
def FW (K:Frag)(x:V)(H:Hp)(k:Bool):Prop:=
 match x with
 | .non=>k=false
 | .bl b=>k=b
 | .int i=>k=(i != 0)
 | .str y=>y.length<=sizeLine/\k=((y.length:Int) != 0)
 | .Fy y=>y.size<=sizeLine/\k=((y.size:Int) != 0)
 | .ref p=>(∃xs,aF K H p xs/\k= !xs.isEmpty)\/(∃xs,bR K H p xs/\k= !xs.isEmpty)\/∃kvs,H p=some (.dK kvs)/\k= !kvs.isEmpty
 |_=>False
theorem isEmpty_kv {κ:Type}{kvs:List (κ×V)}{vs:List (κ×Value)}(r:KV kvs vs):(!vs.isEmpty)= !kvs.isEmpty:=by
 cases r<;>rfl
theorem MN {xs:List V}{its:List Value}(r:Vals xs its):(!its.toArray.isEmpty)= !xs.isEmpty:=by
 cases r<;>simp
theorem MP:(sizeLine:Nat)<2^63:=by rw[sizeLine_eq];decide
theorem tru_ok:TruR X (λx H Q=>∃k,FW X.K x H k/\Q k H):=by
 intro aj s σ H x v Q I rx h;obtain⟨k,e,q⟩:=h;have hl:=MP;have hs:sizeLine=16777216:=sizeLine_eq;cases x with
 |non=>
  cases rx;have e':k=false:=e;subst e';exact truthy_none ⟨H,I,q⟩
 |bl b=>
  cases rx;have e':k=b:=e;subst e';exact wpAny_truthy_bool ⟨H,I,q⟩
 |int i=>
  obtain⟨t,rfl⟩:=rx;have e':k=(i != 0):=e;subst e';exact PySem.P.truthy_int ⟨H,I,q⟩
 |str y=>
  obtain⟨t,rfl⟩:=rx;obtain⟨hy,e'⟩:y.length<=sizeLine/\k=((y.length:Int) != 0):=e;subst e';exact PySem.P.truthy_str (by lia) ⟨H,I.tok _,q⟩
 |Fy y=>
  obtain⟨t,rfl⟩:=rx;obtain⟨hy,e'⟩:y.size<=sizeLine/\k=((y.size:Int) != 0):=e;subst e';exact PySem.W.truthy_bytes (by lia) ⟨H,I.tok _,q⟩
 |ref p=>
  cases rx;have e':(∃xs,aF X.K H p xs/\k= !xs.isEmpty)\/(∃xs,bR X.K H p xs/\k= !xs.isEmpty)\/∃kvs,H p=some (.dK kvs)/\k= !kvs.isEmpty:=e;rcases e' with⟨xs,hx,e'⟩|⟨xs,hx,e'⟩|⟨kvs,hx,e'⟩
  ·subst e';obtain⟨its,r,pl,hz⟩:=I.list hx;have hlen:=r.length;exact wpAny_truthy_list pl.isList (by simp only[size_toArray];lia) ⟨H,I.tok _,by rw[MN r];exact q⟩
  ·subst e';obtain⟨its,r,pl,hz⟩:=I.tuple hx;have hlen:=r.length;exact truthy_tuple pl (by simp only[size_toArray];lia) ⟨H,I.tok _,by rw[MN r];exact q⟩
  ·subst e';obtain⟨hz,hS,vs,r,m⟩:kvs.length<=sizeLine/\(p == sysModules)=false/\∃vs,KV kvs vs/\s.heap.DictOf (oV X.prog X.w) p vs:=I.hok p _ hx;have hlen:kvs.length=vs.length:=Paired.length r;exact wpAny_truthy_dict hS m (by lia) ⟨H,I.tok _,by rw[isEmpty_kv r];exact q⟩
 |_=>exact(show False from e).elim
theorem qX (ha:PE X a ta)(he:∀whole,isTrue a X.env whole=(do let v<-whole;standAt a.pos;holding [v] (truthy v))):
  PT X a (λσ H Q=>ta σ H λx Z=>∃k,FW X.K x Z k/\Q k Z):=by
 intro aj s σ H Q I h;exact isTrue_plain (bW (ha aj s σ H _ I h) λv s1 ⟨x,H1,I1,r1,q1⟩=>tru_ok aj s1 σ H1 x v Q I1 r1 q1) (he _)
theorem vals1 {x:V}{us:List Value}(r:Vals [x] us):∃u,us=[u]/\RelV x u:=by
 cases r with
 |cons r1 r2=>cases r2;exact⟨_,rfl,r1⟩
theorem vals2 {x y:V}{us:List Value}(r:Vals [x,y] us):∃u w',us=[u,w']/\RelV x u/\RelV y w':=by
 cases r with
 |cons r1 r2=>
  cases r2 with
  |cons r3 r4=>cases r4;exact⟨_,_,rfl,r1,r3⟩
theorem call_min2 (hc:X.calm=true):Ce X (.builtin "min") (λxs H Q=>∃i j,xs=[.int i,.int j]/\Q (.int (if j<i then j else i)) H):=by
 intro aj s σ H xs us Q I r h;obtain⟨i,j,rfl,q⟩:=h;obtain⟨u,w',rfl,⟨t,rfl⟩,⟨t',rfl⟩⟩:=vals2 r;refine min_two_ints (I.ok.hd hc) λh' tk k=>⟨_,H,I.kept k,?_,q⟩;by_cases hj:j<i
 ·rw[if_pos hj,if_pos hj];exact⟨_,rfl⟩
 ·rw[if_neg hj,if_neg hj];exact⟨_,rfl⟩
end
end L2
namespace L2
structure K5 (h:Heap)(x dx C:Addr)(mA:Str->Option Value):Prop where
 obj:h.get? x=some (instObj C dx)
 ns:h.Ns1 dx mA
 ne:dx≠x
theorem lookIn_ns {h:Heap}{dx:Addr}{mA:Str->Option Value}(n:h.Ns1 dx mA):∃od,h.get? dx=some od/\∀name,lookIn name od=some (mA name):=by
 obtain⟨o,es,ep,ho,hd,O,_,hm⟩:=n;refine⟨o,ho,λname=>?_⟩;have e:=hm name;unfold nsFind findBy at e;rw[<-Array.find?_toList] at e;unfold lookIn;rw[hd];dsimp only;split
 ·rename_i y q;rw[q] at e;exact congrArg some e
 ·rename_i q;rw[q] at e;have a:es.toList.any (·.refKey)=false:=by
   rw[List.any_eq_false];intro y hy;obtain⟨z,t,hkey⟩:=O y (Array.mem_toList_iff.mp hy);simp[DictEntry.refKey,hkey]
  have a':¬es.toList.any (·.refKey)=true:=by rw[a];exact Bool.false_ne_true
  rw[if_neg a'];exact congrArg some e
theorem K5.look {h:Heap}{x dx C:Addr}{mA:Str->Option Value}(I:K5 h x dx C mA):∃od,PySem.W.InstAt h x (instObj C dx) C (some od)/\∀name,lookIn name od=some (mA name):=
 let ⟨od,ho,hl⟩:=lookIn_ns I.ns
 ⟨od,⟨I.obj,rfl,rfl,ho⟩,hl⟩
section
variable {prog:Program}{w:World}{A:Around}{E:VS0}{s:Shared}{K:Frag}{x dx C f:Addr}{mA:Str->Option Value}{name:Str}{v:Value}
theorem get_map {expr:Bool}{Q:VS0}(X:K.In s.heap)(I:K5 s.heap x dx C mA)(hg:plainGet K C name=true)(hh:hasDictIn K C=true)
  (ha:findIn K (.ref C) name=some none) (hv:mA name=some v) (hv':handedIn v=true) (h:Q v {s with toks:=s.toks+1}):
  wpAny (model prog w) A (getAttr (.ref x) name expr) Q E s:=by
 obtain⟨od,J,hl⟩:=I.look;exact PySem.W.get_value X J (plainGet_of hg).1 (PySem.W.findObj_own hh ha rfl (by rw[hl,hv])) hv' h
theorem get_meth {pl:Sem Bool}{Q:Value×List Value->Shared->Prop}(X:K.In s.heap)(I:K5 s.heap x dx C mA)(hg:plainGet K C name=true)
  (hf:findIn K (.ref C) name=some (some (.ref f))) (ht:isFn K (.ref f)=true) (hv:mA name=none) (h:Q (.ref f,[.ref x]) s):
  wpAny (model prog w) A (getMethod (.ref x) name pl) Q E s:=by
 obtain⟨od,J,hl⟩:=I.look;exact PySem.W.method_fn X J (plainGet_of hg).1 (plainGet_of hg).2 hf (beq_iff_eq.mp ht) (by show(lookIn name od).map (·.isSome)=some false;rw[hl,hv];rfl) h
theorem set_map {ns:List Str}{Q:Unit->Shared->Prop}(X:K.In s.heap)(I:K5 s.heap x dx C mA)
  (hs:findIn K (.ref C) "__setattr__"=some (some (.builtin "object.__setattr__"))) (hp:plainOver K C=true) (ht:takerIn K C name=some none) (hh:hasDictIn K C=true)
  (hw:PySem.Within mA ns) (hsz:ns.length<=sizeLine)
  (h:∀h',K5 h' x dx C (λy=>if y=name then some v else mA y)->Heap.SameBut dx s.heap h'->Q () {s with heap:=h',toks:=s.toks+2}):
  wpAny (model prog w) A (setAttr (.ref x) name v) Q E s:=by
 obtain⟨od,J,hl⟩:=I.look;refine PySem.W.set_plain X J hs (PySem.W.osa_open (s:={s with toks:=s.toks+1}) (r:=none) X J hp ht λb=>?_);obtain⟨cd,hc,hd'⟩:=PySem.W.any_some hh;have hx:s.heap.get? x=some ⟨.ref C,some dx,.plain,#[]⟩:=I.obj;refine wpAny_bind (wpAny_pure (wpAny_bind (wpAny_bind (wpAny_loadPart hx (wpAny_bind (PySem.W.Looks.here (s:={s with toks:=s.toks+1}) (PySem.W.looks_clsIn X hc) ?_))))));rw[hd'];refine wpAny_pure (a:=some dx) (wpAny_bind (wpAny_pure (wpAny_bind ?_)));refine wpAny_nsSet1 (s:={s with toks:=s.toks+1}) I.ns λh' hn2 hs2=>?_;obtain⟨oD,esD,epD,hoD,hdD,hcD⟩:=hn2.count (PySem.Within.cons name v hw);refine wpAny_bind (wpAny_lookBehind hoD (by rw[hdD];exact pastItsLine_dict (le_trans hcD (by rw[length_cons];lia))) ?_);exact wpAny_pure (h _ ⟨(hs2.2 _ (Ne.symm I.ne)).trans I.obj,hn2,I.ne⟩ hs2)
theorem make_map {R:Result->Shared->Prop}{vs:List Value}{kw:List (Str×Value)}(X:K.In s.heap)(hm:makesIn K C=true)
  (hi:findIn K (.ref C) "__init__"=some (some (.ref f))) (hf:PySem.W.typeIn K (.ref f)=some (.type "function"))
  (h:codeAny (model prog w) (A.under (.builtin "type.__call__" ⟨.ref C::vs,kw⟩)) (.call (.ref f) ⟨.ref (s.heap.objs.size+1)::vs,kw⟩) (PySem.W.InitBack (s.heap.objs.size+1) R) {s with heap:=(s.heap.push emptyDict).push (instObj C s.heap.objs.size)}):
  codeAny (model prog w) A (.call (.ref C) ⟨vs,kw⟩) R s:=by
 obtain⟨hh,g,d,t,os⟩:=s;exact PySem.W.make_core (PySem.W.makes_of X hm) (PySem.W.looks_findIn X hi) (λself=>PySem.W.bind_fn X self hf) (.inl rfl) h
end
noncomputable def bA (f:Str)(v:V):List (Str×V)->List (Str×V)
 |[]=>[(f,v)]
 |(g,x)::r=>if g=f then(g,v)::r else(g,x)::bA f v r
theorem aP (f g:Str)(v:V):∀fs:List (Str×V),(bA f v fs).lookup g=if g=f then some v else fs.lookup g
 |[]=>by
  show List.lookup g [(f,v)]=_;by_cases h:g=f
  ·have hb:(g == f)=true:=beq_iff_eq.mpr h;simp only[List.lookup,hb,if_pos h]
  ·have hb:(g == f)=false:=beq_eq_false_iff_ne.mpr h;simp only[List.lookup,hb,if_neg h]
 |(k,x)::r=>by
  have ih:=aP f g v r;rw[show bA f v ((k,x)::r)=(if k=f then(k,v)::r else(k,x)::bA f v r) from rfl];by_cases O:k=f
  ·rw[if_pos O];by_cases h:g=k
   ·have hb:(g == k)=true:=beq_iff_eq.mpr h;simp only[List.lookup,hb,if_pos (h.trans O)]
   ·have hb:(g == k)=false:=beq_eq_false_iff_ne.mpr h;simp only[List.lookup,hb,if_neg (λe:g=f=>h (e.trans O.symm))]
  ·rw[if_neg O];by_cases h:g=k
   ·have hb:(g == k)=true:=beq_iff_eq.mpr h;simp only[List.lookup,hb,if_neg (λe:g=f=>O (h.symm.trans e))]
   ·have hb:(g == k)=false:=beq_eq_false_iff_ne.mpr h;simp only[List.lookup,hb];exact ih
theorem FZ (f:Str)(v:V):∀fs:List (Str×V),f∈(bA f v fs).map (·.1)/\∀g,g∈fs.map (·.1)->g∈(bA f v fs).map (·.1)
 |[]=>⟨by simp[bA],λg h=>by simp at h⟩
 |(k,x)::r=>by
  obtain⟨i1,i2⟩:=FZ f v r;rw[show bA f v ((k,x)::r)=(if k=f then(k,v)::r else(k,x)::bA f v r) from rfl];by_cases O:k=f
  ·rw[if_pos O];subst O;exact⟨by simp,λg h=>by simpa using h⟩
  ·rw[if_neg O];refine⟨?_,λg h=>?_⟩
   ·rw[map_cons];exact mem_cons_of_mem _ i1
   ·rw[map_cons] at h⊢;rcases mem_cons.mp h with e|e
    ·exact mem_cons.mpr (.inl e)
    ·exact mem_cons_of_mem _ (i2 g e)
theorem cO (f:Str)(v:V):∀fs:List (Str×V),(bA f v fs).length<=fs.length+1
 |[]=>by simp[bA]
 |(k,x)::r=>by
  have ih:=cO f v r;rw[show bA f v ((k,x)::r)=(if k=f then(k,v)::r else(k,x)::bA f v r) from rfl];by_cases O:k=f
  ·rw[if_pos O,length_cons,length_cons];lia
  ·rw[if_neg O,length_cons,length_cons];lia
theorem mK.some_of {v:V}{o:Option Value}(r:mK (some v) o):∃u,o=some u/\RelV v u:=by
 cases o with
 |none=>exact(show False from r).elim
 |some u=>exact⟨u,rfl,r⟩
theorem mK.none_of {o:Option Value}(r:mK none o):o=none:=by
 cases o with
 |none=>rfl
 |some u=>exact(show False from r).elim
theorem handed_of {v:V}{u:Value}(r:RelV v u):handedIn u=true:=by
 cases v with
 |non=>cases(show u=Value.none from r);rfl
 |bl b=>cases(show u=Value.bool b from r);rfl
 |int i=>obtain⟨t,e⟩:=(show∃t,u=Value.int i t from r);cases e;rfl
 |str x=>obtain⟨t,e⟩:=(show∃t,u=Value.str x t from r);cases e;rfl
 |Fy b=>obtain⟨t,e⟩:=(show∃t,u=Value.bytes b t from r);cases e;rfl
 |flt b=>obtain⟨t,e⟩:=(show∃t,u=Value.float b t from r);cases e;rfl
 |ref a=>cases(show u=Value.ref a from r);rfl
 |ty n=>cases(show u=Value.type n from r);rfl
section
variable {P:Program}{w:World}{H Z:Hp}{h h':Heap}{a C dx:Addr}{fs fs':List (Str×V)}
theorem PJ (hok:ji P w H h)(e:H a=some (.ins C dx fs)):∃mA,K5 h a dx C mA/\(∀f,mK (fs.lookup f) (mA f))/\PySem.Within mA (fs.map (·.1))/\fs.length<=1000/\H dx=some (.own a):=by
 obtain⟨d,z,ne,ob,mA,n,r,q⟩:=(show iH P w H h a (.ins C dx fs) from hok a _ e);exact⟨mA,⟨ob,n,ne⟩,r,q,z,d⟩
end
structure Cls (K:Frag)(C:Addr):Prop where
 pg:plainGet K C Str.empty=true
 hd:hasDictIn K C=true
 po:plainOver K C=true
 sa:findIn K (.ref C) "__setattr__"=some (some (.builtin "object.__setattr__"))
theorem Cls.get {K:Frag}{C:Addr}(c:Cls K C)(f:Str):plainGet K C f=true:=c.pg
def cR (K:Frag)(C:Addr)(f:Str):Prop:=findIn K (.ref C) f=some none
theorem cR.taker {K:Frag}{C:Addr}{f:Str}(n:cR K C f):takerIn K C f=some none:=by
 unfold takerIn;rw[show findIn K (.ref C) f=some none from n];rfl
structure Meth (K:Frag)(C:Addr)(m:Str)(f:Addr):Prop where
 at_:findIn K (.ref C) m=some (some (.ref f))
 fn:isFn K (.ref f)=true
 kp:keepIn K (.ref f)=true
section
variable {X:Cx}{aj:LO0}{σ:St}{H:Hp}{s:Shared}{a C dx:Addr}{fs:List (Str×V)}{f:Str}{v:V}{A:Around}{E:VS0}
theorem M4 {b:Bool}{Q:VS0}(I:Inv X aj σ H s)(e:H a=some (.ins C dx fs))(c:Cls X.K C)(n:cR X.K C f)(l:fs.lookup f=some v)
  (h:∀u s',Inv X aj σ H s'->RelV v u->Q u s'):wpAny (model X.prog X.w) A (getAttr (.ref a) f b) Q E s:=by
 obtain⟨mA,O9q,r,_,_,_⟩:=PJ I.hok e;obtain⟨u,hu,ru⟩:=mK.some_of (v:=v) (o:=mA f) (by rw[<-l];exact r f);exact get_map I.sG O9q (c.get f) c.hd n hu (handed_of ru) (h u _ (I.tok _) ru)
theorem M5 {m:Str}{g:Addr}{pl:Sem Bool}{Q:Value×List Value->Shared->Prop}(I:Inv X aj σ H s)(e:H a=some (.ins C dx fs))(c:Cls X.K C)(k:Meth X.K C m g)(l:fs.lookup m=none)
  (h:Q (.ref g,[.ref a]) s):wpAny (model X.prog X.w) A (getMethod (.ref a) m pl) Q E s:=by
 obtain⟨mA,O9q,r,_,_,_⟩:=PJ I.hok e;have hn:mA m=none:=mK.none_of (by rw[<-l];exact r m);exact get_meth I.sG O9q (c.get m) k.at_ k.fn hn h
theorem M6 {y:V}{u:Value}{Q:Unit->Shared->Prop}(I:Inv X aj σ H s)(e:H a=some (.ins C dx fs))(c:Cls X.K C)(n:cR X.K C f)(hl:fs.length<1000)(ry:RelV y u)
  (h:∀s',Inv X aj σ (aN H a (.ins C dx (bA f y fs))) s'->Q () s'):wpAny (model X.prog X.w) A (setAttr (.ref a) f u) Q E s:=by
 obtain⟨mA,O9q,r,wi,_,ho⟩:=PJ I.hok e;have hz:(fs.map (·.1)).length<=sizeLine:=by rw[length_map,sizeLine_eq];lia
 refine set_map I.sG O9q c.sa c.po n.taker c.hd wi hz λh' O' sb=>h _ ?_;have hd:∃o,h'.get? dx=some o:=let ⟨o,_,_,e',_⟩:=O'.ns;⟨o,e'⟩;refine I.write (x:=a) (e:=dx) (by rw[e];exact True.intro) (.inr ho) (λb q hb z=>(sb.2 b hb).trans z) hd ?_;refine⟨by rw[aO O9q.ne];exact ho,?_,O9q.ne,O'.obj,_,O'.ns,λg=>?_,λg hg=>?_⟩
 ·have:=cO f y fs;lia
 ·show mK ((bA f y fs).lookup g) (if g=f then some u else mA g);rw[aP];by_cases q:g=f
  ·rw[if_pos q,if_pos q];exact ry
  ·rw[if_neg q,if_neg q];exact r g
 ·by_cases q:g=f
  ·rw[q];exact(FZ f y fs).1
  ·refine(FZ f y fs).2 g (wi g λz=>hg ?_);show(if g=f then some u else mA g)=none;rw[if_neg q];exact z
theorem Inv.made (I:Inv X aj σ H s):Inv X aj σ (aN (aN H s.heap.objs.size (.own (s.heap.objs.size+1))) (s.heap.objs.size+1) (.ins C s.heap.objs.size []))
  {s with heap:=(s.heap.push emptyDict).push (instObj C s.heap.objs.size)}:=by
 have e1:(s.heap.push emptyDict).get? s.heap.objs.size=some emptyDict:=Heap.get?_push_size s.heap rfl;have e2:((s.heap.push emptyDict).push (instObj C s.heap.objs.size)).get? (s.heap.objs.size+1)=some (instObj C s.heap.objs.size):=by
  have:=Heap.get?_push_size (s.heap.push emptyDict) (o:=instObj C s.heap.objs.size) rfl;rwa[Heap.size_push] at this
 have e3:(s.heap.push emptyDict).Ns s.heap.objs.size (λz=>none):=⟨emptyDict,#[],_,e1,rfl,(λe he=>absurd he (by simp)),λz=>rfl⟩;have I1:=I.laid (a:=s.heap.objs.size) (o:=.own (s.heap.objs.size+1)) (h':=s.heap.push emptyDict) (t':=s.toks) (λb u q=>Heap.get?_push_of_some _ q) (Nat.le_refl _) ⟨_,e1⟩;refine I1.laid (a:=s.heap.objs.size+1) (o:=.ins C s.heap.objs.size []) (t':=s.toks) (λb u q=>Heap.get?_push_of_some _ q) (le_of_eq (Heap.size_push _ _)) ?_;have ne:s.heap.objs.size≠s.heap.objs.size+1:=ne_of_lt (Nat.lt_succ_self _);refine⟨by rw[aO ne,ao],zero_le _,ne,e2,λz=>none,(Heap.Ns1.of_empty e3).at λo q=>Heap.get?_push_of_some _ q,λz=>True.intro,λy hy=>absurd rfl hy⟩
theorem attr_of {prog:Program}{w:World}{env:Env}{e:Expr}{f:Str}{pos:Pos}{s:Shared}{Q:VS0}(hb:attributeBase e f env (eval e env)=eval e env)
  (h:wpAny (model prog w) A (eval e env) (λo s₁=>wpAny (model prog w) A (getAttr o f true) Q E s₁) E s):wpAny (model prog w) A (eval (.Attribute e f pos) env) Q E s:=
 Attribute_any_ h (by rw[arm_eval_Attribute,hb])
end
def tFld (K:Frag)(ta:TE)(f:Str):TE:=λσ H Q=>ta σ H λx H1=>∃a C dx fs v,x=.ref a/\H1 a=some (.ins C dx fs)/\Cls K C/\cR K C f/\fs.lookup f=some v/\Q v H1
def sFld (K:Frag)(ta tv:TE)(f:Str):TS:=λD σ H=>tv σ H λy H1=>ta σ H1 λx H2=>∃a C dx fs,x=.ref a/\H2 a=some (.ins C dx fs)/\Cls K C/\cR K C f/\fs.length<1000/\
 D.nx σ (aN H2 a (.ins C dx (bA f y fs)))
def InOp (X:Cx)(op:Operator)(rd:V->V->Hp->VK->Prop):Prop:=
 ∀(aj:LO0) (s:Shared) (σ:St) (H:Hp) (x y:V) (u v:Value) (Q:VK),Inv X aj σ H s->RelV x u->RelV y v->rd x y H Q->wpAny (model X.prog X.w) X.A (inplaceOp op u v) (EP X aj σ Q) X.xe s
def PK (K:Frag)(ta tv:TE)(rd:V->V->Hp->VK->Prop)(f:Str):TS:=λD σ H=>ta σ H λx H1=>∃a C dx fs v,x=.ref a/\H1 a=some (.ins C dx fs)/\Cls K C/\cR K C f/\fs.lookup f=some v/\
 tv σ H1 λy H2=>rd v y H2 λz H3=>∃m6 fs',H3 a=some (.ins C m6 fs')/\fs'.length<1000/\D.nx σ (aN H3 a (.ins C m6 (bA f z fs')))
section
variable {X:Cx}{o e value:Expr}{f:Str}{pos pos' tpos:Pos}{ta tv:TE}
theorem aQ (he:PE X e ta)(hb:attributeBase e f X.env (eval e X.env)=eval e X.env):PE X (.Attribute e f pos) (tFld X.K ta f):=by
 intro aj s σ H Q I h;refine attr_of hb (bW (he aj s σ H _ I h) λu s1 ⟨x,H1,I1,rx,a,C,dx,fs,v,ex,ea,c,n,l,q⟩=>?_);subst ex;obtain rfl:u=Value.ref a:=rx;exact M4 I1 ea c n l λu' s2 I2 ru=>⟨v,H1,I2,ru,q⟩
theorem fH (ha:PE X o ta)(hv:PE X value tv)(hs:swapsWith value (some (.Attribute o f pos')) pos.line X.env=pure false):PS X (.Assign [.Attribute o f pos'] value pos) (sFld X.K ta tv f):=by
 intro aj s σ H D I h;refine plainObj_wpAny_Assign_Attribute (bW (hv aj s σ H _ I h) λu s1 ⟨y,H1,I1,ry,q⟩=>bW (ha aj s1 σ H1 _ I1 q) λov s2 ⟨x,H2,I2,rx,a,C,dx,fs,ex,ea,c,n,l,q2⟩=>?_) hs;subst ex;obtain rfl:ov=Value.ref a:=rx;exact M6 I2 ea c n l ry λs3 I3=>⟨σ,_,I3,q2⟩
theorem Rh {op:Operator}{rd:V->V->Hp->VK->Prop}(ha:PE X o ta)(hv:PE X value tv)(hop:InOp X op rd):PS X (.AugAssign (.Attribute o f tpos) op value pos) (PK X.K ta tv rd f):=by
 intro aj s σ H D I h;refine wpAny_AugAssign_AttributeAny (bW (ha aj s σ H _ I h) λov s1 ⟨x,H1,I1,rx,a,C,dx,fs,v,ex,ea,c,n,l,q⟩=>?_);subst ex;obtain rfl:ov=Value.ref a:=rx;refine M4 I1 ea c n l λu s2 I2 ru=>bW (hv aj s2 σ H1 _ I2 q) λw3 s3 ⟨y,H2,I3,ry,q3⟩=>bW (hop aj s3 σ H2 v y u w3 _ I3 ru ry q3) λw4 s4 ⟨z,H3,I4,rz,m6,fs',ea',l',q4⟩=>?_;exact M6 I4 ea' c n l' rz λs5 I5=>⟨σ,_,I5,q4⟩
def rAdd:V->V->Hp->VK->Prop:=λx y H Q=>∃i j,x=.int i/\y=.int j/\Q (.int (i+j)) H
theorem in_add:InOp X .Add rAdd:=by
 rintro aj s σ H x y u v Q I rx ry ⟨i,j,rfl,rfl,q⟩;obtain⟨t,rfl⟩:=(show∃t,u=Value.int i t from rx);obtain⟨t',rfl⟩:=(show∃t',v=Value.int j t' from ry);exact PyProof.Rows.iadd_int ⟨.int (i+j),H,I.tok _,⟨_,rfl⟩,q⟩
end
section
variable {X:Cx}{aj:LO0}{σ:St}{H:Hp}{s:Shared}{A:Around}{E:VS0}{Q:VS0}{c:Value}{b:Bool}
end
end L2
namespace L2
structure cW (k:Nat)(A:Around):Prop where
 hd:A.handled=none
 dp:A.depth+3*k+5<recursionLimit
 un:A.units+16*k+200<cLine
theorem cW.mono {j k:Nat}{A:Around}(r:cW k A)(h:j<=k:=by decide):cW j A:=⟨r.hd,by have:=r.dp;lia,by have:=r.un;lia⟩
theorem cW.deeper {k:Nat}{A:Around}(r:cW (k+1) A)(env:Env):cW k (A.deeper env):=
 ⟨r.hd,by have:=r.dp;show A.depth+1+3*k+5<_;lia,by have:=r.un;show A.units+3+16*k+200<_;lia⟩
theorem cW.in1 {k:Nat}{A:Around}(r:cW (k+1) A):cW k A.in1:=
 ⟨r.hd,by have:=r.dp;show A.depth+3*k+5<_;lia,by have:=r.un;show A.units+1+16*k+200<_;lia⟩
theorem make_depth {A:Around}{C:Addr}{us:List Value}{kw:List (Str×Value)}:(A.under (.builtin "type.__call__" ⟨.ref C::us,kw⟩)).depth=A.depth+1:=by
 first|rfl|simp[Around.under,Code.weight,Code.isCreation,Code.isGuard,Code.isCaller,Code.frames,Code.isFrame,guardIds]
theorem make_units {A:Around}{C:Addr}{us:List Value}{kw:List (Str×Value)}:(A.under (.builtin "type.__call__" ⟨.ref C::us,kw⟩)).units=A.units+1:=by
 first|rfl|simp[Around.under,Code.cUnits,Code.frames,Code.isFrame]
theorem cW.make {k:Nat}{A:Around}(r:cW (k+1) A)(C:Addr)(us:List Value)(kw:List (Str×Value)):cW k (A.under (.builtin "type.__call__" ⟨.ref C::us,kw⟩)):=
 ⟨r.hd,by have:=r.dp;rw[make_depth];lia,by have:=r.un;rw[make_units];lia⟩
theorem cW.depth {k:Nat}{A:Around}(r:cW k A):A.depth<recursionLimit:=by have:=r.dp;lia
theorem cW.units {k:Nat}{A:Around}(r:cW k A):A.units+64<cLine:=by have:=r.un;lia
def Cg:TA:=λz H Q=>Q [] H
def Je (ta:TE)(tr:TA):TA:=λσ H Q=>ta σ H λx H1=>tr σ H1 λxs H2=>Q (x::xs) H2
section
variable {X:Cx}{e:Expr}{es:List Expr}{te:TE}{t:TA}{pos:Pos}
theorem dM:PA X [] Cg:=λz z z z H Q I h=>Calls.spliced_nil ⟨[],H,I,.nil,h⟩
theorem bC (ha:PE X e te)(hr:PA X es t)(hs:starEach (e::es) X.env=(false,eval e X.env)::starEach es X.env:=by rfl):PA X (e::es) (Je te t):=by
 intro pos aj s σ H Q I h;rw[hs];show wpAny _ _ (spliced ((false,eval e X.env)::backTo pos (starEach es X.env))) _ _ s;refine Calls.spliced_cons (bW (ha aj s σ H _ I h) λu s1 ⟨x,H1,I1,r1,q1⟩=>?_);exact bW (hr pos aj s1 σ H1 _ I1 q1) λus s2 ⟨xs,H2,I2,r2,q2⟩=>⟨x::xs,H2,I2,.cons r1 r2,q2⟩
def tTup (t:TA):TE:=λσ H Q=>t σ H λxs H1=>xs.length<=sizeLine/\∀p,H1 p=none->Q (.ref p) (aN H1 p (.tup xs))
def tLst (t:TA):TE:=λσ H Q=>t σ H λxs H1=>xs.length<=sizeLine/\∀p,H1 p=none->Q (.ref p) (aN H1 p (.aB xs))
theorem jE {x1}(h:PA X es t):PE X (.Tuple es x1 pos) (tTup t):=by
 intro aj s σ H Q I hq;refine wpAny_Tuple_spliced (bW (h pos aj s σ H _ I hq) λus s1 ⟨xs,H1,I1,r,z,q⟩=>⟨by rw[<-r.length];exact z,?_⟩);have hf:H1 s1.heap.objs.size=none:=I1.hok.fresh (Nat.le_refl _);refine⟨.ref s1.heap.objs.size,aN H1 s1.heap.objs.size (.tup xs),I1.laid (t':=s1.toks) (λb u e=>Heap.get?_push_of_some _ e) (Nat.le_refl _) ?_,rfl,q _ hf⟩;exact⟨z,us,r,⟨_,Heap.get?_push_size _ rfl,rfl,_,rfl⟩⟩
theorem bK (h:PA X es t):PE X (.List es pos) (tLst t):=by
 intro aj s σ H Q I hq;refine wpAny_List_spliced (bW (h pos aj s σ H _ I hq) λus s1 ⟨xs,H1,I1,r,z,q⟩=>⟨by rw[<-r.length];exact z,?_⟩);have hf:H1 s1.heap.objs.size=none:=I1.hok.fresh (Nat.le_refl _);refine⟨.ref s1.heap.objs.size,aN H1 s1.heap.objs.size (.aB xs),I1.laid (t':=s1.toks) (λb u e=>Heap.get?_push_of_some _ e) (Nat.le_refl _) ?_,rfl,q _ hf⟩;exact⟨z,us,0,r,Heap.get?_push_size _ rfl⟩
end
abbrev Sp:=List V->Hp->VK->XK->Prop
abbrev yd:=List Env->Hp->Shared->XK->Value->Shared->Prop
structure zp (P:Program)(w:World)(K:Frag)(mg:Str->Option Value)(aq:Heap)(A:Around)(outer:List Env)(s:Shared)(H:Hp):Prop where
 frames:A.frames=some outer
 mod:Mod K mg aq
 bs:∀b o,aq.get? b=some o->s.heap.get? b=some o/\H b=none
 FN:aq.objs.size<=s.heap.objs.size
 qR:s.heap.FunFrames aq outer
 Ra:∀b∈frs outer,H b=none
 hok:ji P w H s.heap
 bare:AllBare s.gens
def CE (outer:List Env)(P:Program)(w:World)(H:Hp)(s:Shared)(Q:VK)(u:Value)(s':Shared):Prop:=
 ∃v Z,s'.os=s.os/\AllBare s'.gens/\Un (frs outer) [] H Z s.heap s'.heap/\ji P w Z s'.heap/\RelV v u/\Q v Z
def CR (CX:yd)(outer:List Env)(P:Program)(w:World)(H:Hp)(s:Shared)(Q:VK)(E:XK)(r:Result)(s':Shared):Prop:=
 match r with
 | .ok (.ret u)=>CE outer P w H s Q u s'
 | .ok _=>False
 | .error e=>CX outer H s E e s'
structure gJ (P:Program)(w:World)(K:Frag)(mg:Str->Option Value)(aq:Heap)(CX:yd)(k:Nat)(f:Addr)(fd:FuncData)(ps:List Str)(sp:Sp):Prop where
 len:∀vs H Q E,sp vs H Q E->vs.length=ps.length
 run:∀(A:Around) (outer:List Env) (s:Shared) (H:Hp) (args:Args) (us:List Value) (vs:List V) (Q:VK) (E:XK),cW k A->zp P w K mg aq A outer s H->BindsTo s fd args (ps.zip us)->Vals vs us->sp vs H Q E->
  codeAny (model P w) A (.call (.ref f) args) (CR CX outer P w H s Q E) s
theorem gJ.mono {P:Program}{w:World}{K:Frag}{mg:Str->Option Value}{aq:Heap}{CX:yd}{j k:Nat}{f:Addr}{fd:FuncData}{ps:List Str}{sp:Sp}(F:gJ P w K mg aq CX j f fd ps sp)(h:j<=k):
  gJ P w K mg aq CX k f fd ps sp:=⟨F.len,λA outer s H args us vs Q E hr=>F.run A outer s H args us vs Q E (hr.mono h)⟩
theorem zp.make {P:Program}{w:World}{K:Frag}{mg:Str->Option Value}{aq:Heap}{A:Around}{outer:List Env}{s:Shared}{H:Hp}(e:zp P w K mg aq A outer s H)(C:Addr)(us:List Value)(kw:List (Str×Value)):
  zp P w K mg aq (A.under (.builtin "type.__call__" ⟨.ref C::us,kw⟩)) outer s H:=⟨by first|exact e.frames|(simpa[Around.under,Code.envs,Code.isFrame,pushEnvs] using e.frames),e.mod,e.bs,e.FN,e.qR,e.Ra,e.hok,e.bare⟩
theorem zp.in1 {P:Program}{w:World}{K:Frag}{mg:Str->Option Value}{aq:Heap}{A:Around}{outer:List Env}{s:Shared}{H:Hp}(e:zp P w K mg aq A outer s H):
  zp P w K mg aq A.in1 outer s H:=⟨e.frames,e.mod,e.bs,e.FN,e.qR,e.Ra,e.hok,e.bare⟩
section
variable {X:Cx}{aj:LO0}{σ:St}{H:Hp}{s s':Shared}
theorem Inv.env0 (I:Inv X aj σ H s):zp X.prog X.w X.K X.mg X.aq X.A X.stack s H:=
 ⟨I.ok.frames,I.ok.mod,I.bs,le_trans I.ok.FN I.sz,I.stack,I.YS,I.hok,I.bare⟩
theorem Inv.after {Q:VK}{u:Value}(I:Inv X aj σ H s)(h:CE X.stack X.prog X.w H s Q u s'):EP X aj σ Q u s':=by
 obtain⟨v,Z,os,bare,un,hok,r,q⟩:=h;obtain⟨hh,g,d,t,os'⟩:=s';obtain rfl:os'=s.os:=os;exact⟨v,Z,I.call (h':=hh) (g':=g) (d':=d) (t':=t) (ch:=[]) un hok bare (λb z=>absurd z (by simp)),r,q⟩
end
def tCall (sp:Sp)(jl:List V)(E:XK)(t:TA):TE:=λσ H Q=>t σ H λvs H1=>sp (vs++jl) H1 Q E
def tMeth (C:Addr)(m:Str)(sp:Sp)(jl:List V)(E:XK)(ta:TE)(t:TA):TE:=λσ H Q=>ta σ H λx H1=>∃a dx fs,x=.ref a/\H1 a=some (.ins C dx fs)/\fs.lookup m=none/\
 t σ H1 λvs H2=>sp (x::(vs++jl)) H2 Q E
def tMake (C:Addr)(sp:Sp)(jl:List V)(E:XK)(t:TA):TE:=λσ H Q=>t σ H λvs H1=>∀x dx,H1 x=none->H1 dx=none->dx≠x->
 sp (.ref x::(vs++jl)) (aN (aN H1 dx (.own x)) x (.ins C dx [])) (λv H2=>v=.non/\Q (.ref x) H2) E
def Binds (K:Frag)(fd:FuncData)(ps:List Str)(ds:List Value):Prop:=
 ∀(s:Shared) (us:List Value),K.In s.heap->(us++ds).length=ps.length->BindsTo s fd ⟨us,[]⟩ (ps.zip (us++ds))
theorem Binds.all {K:Frag}{fd:FuncData}{ps:List Str}(h:∀us:List Value,us.length=ps.length->bindArgs fd ⟨us,[]⟩=pure (ps.zip us)):Binds K fd ps []:=λs us z hl=>by
 rw[append_nil] at hl⊢;exact .of_eq (h us hl)
def Passes (CX:yd)(X:Cx)(E:XK):Prop:=∀(aj:LO0) (σ:St) (H:Hp) (s:Shared) (e:Value) (s':Shared),Inv X aj σ H s->CX X.stack H s E e s'->X.xe e s'
section
variable {X:Cx}{CX:yd}{k:Nat}{f C:Addr}{fd:FuncData}{ps:List Str}{sp:Sp}{jl:List V}{ds:List Value}{E:XK}{x m:Str}{p pos apos:Pos}{e o:Expr}{es:List Expr}{ta:TE}{t:TA}
theorem M7 {aj:LO0}{σ:St}{H:Hp}{s:Shared}{Q:VK}{us:List Value}{vs:List V}(F:gJ X.prog X.w X.K X.mg X.aq CX k f fd ps sp)(hr:cW k X.A)(hb:Binds X.K fd ps ds)(hd:Vals jl ds)(hx:Passes CX X E)
  (I:Inv X aj σ H s) (r:Vals vs us) (h:sp (vs++jl) H Q E):wpAny (model X.prog X.w) X.A (call (.ref f) us) (EP X aj σ Q) X.xe s:=by
 have r2:Vals (vs++jl) (us++ds):=r.append hd;have hl:(us++ds).length=ps.length:=by rw[<-r2.length];exact F.len _ _ _ _ h
 refine wpAny_call (codeAny_mono (F.run X.A X.stack s H ⟨us,[]⟩ (us++ds) (vs++jl) Q E hr I.env0 (hb s us I.sG hl) r2 h) λr s' hq=>?_);cases r with
 |error e=>exact hx aj σ H s e s' I hq
 |ok fl=>
  cases fl with
  |ret u=>exact I.after hq
  |next=>exact False.elim hq
  |brk=>exact False.elim hq
  |cont=>exact False.elim hq
theorem pe_call (F:gJ X.prog X.w X.K X.mg X.aq CX k f fd ps sp)(hr:cW k X.A)(hg:Gl X x)(hm:X.mg x=some (.ref f))(O:keepIn X.K (.ref f)=true)(hb:Binds X.K fd ps ds)(hd:Vals jl ds)(hx:Passes CX X E)
  (ha:PA X (e::es) t) (hdb:(x == ("__debug__":Str))=false:=by decide) (he:starEach (e::es) X.env=(false,eval e X.env)::starEach es X.env:=by rfl) (hpl:(backTo pos (starEach es X.env)).any (·.1)=false:=by rfl):
  PE X (.Call (.Name x p) (e::es) [] pos) (tCall sp jl E t):=by
 intro aj s σ H Q I h;refine wpAny_Call_Name_kw (Jc I hg hm ?_ hdb);refine callWith_K (h₀:=X.aq) I.ok.mod.YM O (bW (ha pos aj s σ H _ I h) λus s1 ⟨vs,H1,I1,r,q⟩=>⟨I1.sG,?_⟩) he hpl;exact M7 F hr hb hd hx I1 r q
theorem pe_meth {pl:Sem Bool}(he:PE X o ta)(c:Cls X.K C)(hm:Meth X.K C m f)(F:gJ X.prog X.w X.K X.mg X.aq CX k f fd ps sp)(hr:cW k X.A)(hb:Binds X.K fd ps ds)(hd:Vals jl ds)(hx:Passes CX X E)(ha:PA X (e::es) t)
  (hst:starEach (e::es) X.env=(false,eval e X.env)::starEach es X.env:=by rfl) (hpl:(backTo pos (starEach es X.env)).any (·.1)=false:=by rfl)
  (ht:eval (.Call (.Attribute o m apos) (e::es) [] pos) X.env=(do
   let ov<-eval o X.env
   standAt apos.atName
   let (f,first)<-holding [ov] (getMethod ov m pl)
   callWith pos f first (backTo pos (starEach (e::es) X.env)) (backToKw pos (keywordEach [] X.env))):=by rfl):
  PE X (.Call (.Attribute o m apos) (e::es) [] pos) (tMeth C m sp jl E ta t):=by
 intro aj s σ H Q I h;refine PySem.W.methodCall_KW (pl:=pl) (bW (he aj s σ H _ I h) λu s1 ⟨x,H1,I1,rx,a,dx,fs,ex,ea,l,q⟩=>?_) ht;subst ex;obtain rfl:u=Value.ref a:=rx;refine M5 I1 ea c hm l ?_;refine callWith_K (first:=[.ref a]) (h₀:=X.aq) I.ok.mod.YM hm.kp (bW (ha pos aj s1 σ H1 _ I1 q) λus s2 ⟨vs,H2,I2,r,q2⟩=>⟨I2.sG,?_⟩) hst hpl
 exact M7 (us:=.ref a::us) (vs:=.ref a::vs) F hr hb hd hx I2 (.cons rfl r) q2
theorem pe_meth0 {pl:Sem Bool}(he:PE X o ta)(c:Cls X.K C)(hm:Meth X.K C m f)(F:gJ X.prog X.w X.K X.mg X.aq CX k f fd ps sp)(hr:cW k X.A)(hb:Binds X.K fd ps ds)(hd:Vals jl ds)(hx:Passes CX X E)
  (ht:eval (.Call (.Attribute o m apos) [] [] pos) X.env=(do
   let ov<-eval o X.env
   standAt apos.atName
   let (f,first)<-holding [ov] (getMethod ov m pl)
   callWith pos f first (backTo pos (starEach [] X.env)) (backToKw pos (keywordEach [] X.env))):=by rfl):
  PE X (.Call (.Attribute o m apos) [] [] pos) (tMeth C m sp jl E ta Cg):=by
 intro aj s σ H Q I h;refine PySem.W.methodCall_KW (pl:=pl) (bW (he aj s σ H _ I h) λu s1 ⟨x,H1,I1,rx,a,dx,fs,ex,ea,l,q⟩=>?_) ht;subst ex;obtain rfl:u=Value.ref a:=rx;refine M5 I1 ea c hm l ?_;exact PySem.W.callWith_K0 (first:=[.ref a]) I1.sG hm.kp (M7 (us:=[.ref a]) (vs:=[.ref a]) F hr hb hd hx I1 (.cons rfl .nil) q)
structure Mk (K:Frag)(C f:Addr):Prop where
 makes:makesIn K C=true
 init:findIn K (.ref C) "__init__"=some (some (.ref f))
 fn:isFn K (.ref f)=true
 kp:keepIn K (.ref C)=true
theorem Vm {aj:LO0}{σ:St}{H:Hp}{s:Shared}{Q:VK}{us:List Value}{vs:List V}(M:Mk X.K C f)(F:gJ X.prog X.w X.K X.mg X.aq CX k f fd ps sp)(hr:cW (k+1) X.A)(hb:Binds X.K fd ps ds)(hd:Vals jl ds)
  (hx:Passes CX X E) (I:Inv X aj σ H s) (r:Vals vs us)
  (h:∀x dx,H x=none->H dx=none->dx≠x->sp (.ref x::(vs++jl)) (aN (aN H dx (.own x)) x (.ins C dx [])) (λv H2=>v=.non/\Q (.ref x) H2) E):
  wpAny (model X.prog X.w) X.A (call (.ref C) us) (EP X aj σ Q) X.xe s:=by
 have hq:=h (s.heap.objs.size+1) s.heap.objs.size (I.hok.fresh (Nat.le_succ _)) (I.hok.fresh (Nat.le_refl _)) (ne_of_lt (Nat.lt_succ_self _));have I2:=Inv.made (C:=C) I;have r2:Vals (V.ref (s.heap.objs.size+1)::(vs++jl)) (Value.ref (s.heap.objs.size+1)::(us++ds)):=.cons rfl (r.append hd);have hl:(Value.ref (s.heap.objs.size+1)::us++ds).length=ps.length:=by
  have e:=r2.length;rw[F.len _ _ _ _ hq] at e;exact e.symm
 refine wpAny_call (make_map (f:=f) I.sG M.makes M.init (beq_iff_eq.mp M.fn) (codeAny_mono (F.run _ X.stack _ _ ⟨Value.ref (s.heap.objs.size+1)::us,[]⟩ (Value.ref (s.heap.objs.size+1)::(us++ds)) _ _ E (hr.make C us []) (I2.env0.make C us []) (hb _ (Value.ref (s.heap.objs.size+1)::us) I2.sG hl) r2 hq) λr s' hq'=>?_));cases r with
 |error e=>exact hx aj σ _ _ e s' I2 hq'
 |ok fl=>
  cases fl with
  |ret u=>
   obtain⟨v,Z,I3,rv,ev,q3⟩:=I2.after hq';subst ev;exact⟨rv,⟨V.ref (s.heap.objs.size+1),Z,I3,rfl,q3⟩⟩
  |next=>exact False.elim hq'
  |brk=>exact False.elim hq'
  |cont=>exact False.elim hq'
theorem pe_make (M:Mk X.K C f)(F:gJ X.prog X.w X.K X.mg X.aq CX k f fd ps sp)(hr:cW (k+1) X.A)(hg:Gl X x)(hm:X.mg x=some (.ref C))(hb:Binds X.K fd ps ds)(hd:Vals jl ds)(hx:Passes CX X E)
  (ha:PA X (e::es) t) (hdb:(x == ("__debug__":Str))=false:=by decide) (he:starEach (e::es) X.env=(false,eval e X.env)::starEach es X.env:=by rfl) (hpl:(backTo pos (starEach es X.env)).any (·.1)=false:=by rfl):
  PE X (.Call (.Name x p) (e::es) [] pos) (tMake C sp jl E t):=by
 intro aj s σ H Q I h;refine wpAny_Call_Name_kw (Jc I hg hm ?_ hdb);refine callWith_K (h₀:=X.aq) I.ok.mod.YM M.kp (bW (ha pos aj s σ H _ I h) λus s1 ⟨vs,H1,I1,r,q⟩=>⟨I1.sG,?_⟩) he hpl;exact Vm M F hr hb hd hx I1 r q
theorem pe_make0 (M:Mk X.K C f)(F:gJ X.prog X.w X.K X.mg X.aq CX k f fd ps sp)(hr:cW (k+1) X.A)(hg:Gl X x)(hm:X.mg x=some (.ref C))(hb:Binds X.K fd ps ds)(hd:Vals jl ds)(hx:Passes CX X E)
  (hdb:(x == ("__debug__":Str))=false:=by decide):PE X (.Call (.Name x p) [] [] pos) (tMake C sp jl E Cg):=by
 intro aj s σ H Q I h;refine wpAny_Call_Name_kw (Jc I hg hm ?_ hdb);exact PySem.W.callWith_K0 I.sG M.kp (Vm (us:=[]) M F hr hb hd hx I .nil h)
end
section
variable {X:Cx}{CX:yd}{k:Nat}{f C:Addr}{fd:FuncData}{ps ks:List Str}{sp:Sp}{E:XK}{x m:Str}{p pos apos kpos:Pos}{e o:Expr}{es:List Expr}{kws:List Keyword}{te ta:TE}{t tk:TA}{nm:Option Str}
variable {g:List Value->List Value->List Value}{gV:List V->List V->List V}
end
structure Jf (N P:List Str)(sc:Scope):Prop where
 kind:sc.kind=.function
 co:sc.isCoroutine=false
 gen:sc.isGenerator=false
 nd:N.Nodup
 pre:N.take P.length=P
 par:∀x∈P,sc.names.lookup x=some .local\/sc.names.lookup x=some .cell
 nofree:∀y∈sc.names,y.2≠ .free
theorem Ri {kindOf:Str->Option NameKind}{x:Str}:∀{binds:List (Str×Value)}{m:Str->Option Value},(∀v,(x,v)∉binds)->bindL kindOf binds m x=m x
 |[],_,_=>rfl
 |(n,v)::r,m,h=>by
  unfold bindL;rw[Ri λw hw=>h w (mem_cons_of_mem _ hw)];split
  ·have:x≠n:=by rintro rfl;exact h v mem_cons_self
   simp[this]
  ·rfl
theorem Rj {kindOf:Str->Option NameKind}{x:Str}:∀{binds:List (Str×Value)}{m:Str->Option Value},(∀v,(x,v)∉binds)->bindC kindOf binds m x=m x
 |[],_,_=>rfl
 |(n,v)::r,m,h=>by
  unfold bindC;rw[Rj λw hw=>h w (mem_cons_of_mem _ hw)];split
  ·rfl
  ·have:x≠n:=by rintro rfl;exact h v mem_cons_self
   simp[this]
theorem Rk {kindOf:Str->Option NameKind}{x:Str}{v:Value}:∀{P:List Str}{vs:List Value}{i:Nat}{m:Str->Option Value},P.Nodup->P[i]? =some x->vs[i]? =some v->kindOf x=some .local->
  bindL kindOf (P.zip vs) m x=some v
 |[],_,_,_,_,h,_,_=>by simp at h
 |_::_,[],_,_,_,_,h,_=>by simp at h
 |p::P,w::vs,0,m,nd,h1,h2,O=>by
  simp at h1 h2;subst h1;subst h2;show bindL kindOf ((p,w)::P.zip vs) m p=_;unfold bindL;rw[Ri λv hv=>(nodup_cons.mp nd).1 (List.of_mem_zip hv).1,if_pos O];simp
 |p::P,w::vs,i+1,m,nd,h1,h2,O=>by
  show bindL kindOf ((p,w)::P.zip vs) m x=_;unfold bindL;exact Rk (i:=i) (nodup_cons.mp nd).2 (by simpa using h1) (by simpa using h2) O
theorem Rm {kindOf:Str->Option NameKind}{x:Str}{v:Value}:∀{P:List Str}{vs:List Value}{i:Nat}{m:Str->Option Value},P.Nodup->P[i]? =some x->vs[i]? =some v->kindOf x≠some .local->
  bindC kindOf (P.zip vs) m x=some v
 |[],_,_,_,_,h,_,_=>by simp at h
 |_::_,[],_,_,_,_,h,_=>by simp at h
 |p::P,w::vs,0,m,nd,h1,h2,O=>by
  simp at h1 h2;subst h1;subst h2;show bindC kindOf ((p,w)::P.zip vs) m p=_;unfold bindC;rw[Rj λv hv=>(nodup_cons.mp nd).1 (List.of_mem_zip hv).1,if_neg O];simp
 |p::P,w::vs,i+1,m,nd,h1,h2,O=>by
  show bindC kindOf ((p,w)::P.zip vs) m x=_;unfold bindC;exact Rm (i:=i) (nodup_cons.mp nd).2 (by simpa using h1) (by simpa using h2) O
noncomputable def start (N:List Str)(vs:List V):St:=vs.map some++replicate (N.length-vs.length) none
noncomputable def uy (CX:yd)(P:Program)(w:World)(K:Frag)(mg:Str->Option Value)(aq:Heap)(N:List Str)(qual:Str)(scope:Scope)(f:Addr)(cd:Value)(A:Around)(outer:List Env)(s:Shared)(H:Hp)(E:XK):Cx where
 prog:=P
 w:=w
 K:=K
 mg:=mg
 aq:=aq
 A:=A.deeper (envOfC qual scope s.heap.objs.size f cd)
 N:=N
 s_0:=s
 H_0:=H
 env:=envOfC qual scope s.heap.objs.size f cd
 outer:=outer
 stack:=envOfC qual scope s.heap.objs.size f cd::outer
 ex:=[]
 calm:=true
 fn:=λz=>true
 pn:=[]
 xe:=λe s'=>wpAny (model P w) (A.deeper (envOfC qual scope s.heap.objs.size f cd)) («leaving» (envOfC qual scope s.heap.objs.size f cd) e) (λz s''=>CX outer H s E e s'') (λe' s''=>CX outer H s E e' s'') s'
theorem Vn {sc:Scope}{n:Nat}{x:Str}(h:sc.names.lookup x=some .cell):∃c,(cellsFrom n sc.names []).lookup x=some c:=by
 have q:=PySem.W.cellsFrom_some sc.names n [] (.inl h);exact isSome_iff_exists.mp q
theorem inv_start {CX:yd}{P:Program}{w:World}{K:Frag}{mg:Str->Option Value}{aq:Heap}{N ps:List Str}{qual:Str}{scope:Scope}{f:Addr}{cd:Value}{A:Around}{outer:List Env}{s s1:Shared}{H:Hp}{E:XK}{us:List Value}{vs:List V}
  (S:Jf N ps scope) (hd:A.handled=none) (e0:zp P w K mg aq A outer s H) (hl:vs.length=ps.length) (r:Vals vs us)
  (x:InCallC s s.heap.objs.size (bindL (envOfC qual scope s.heap.objs.size f cd).kindOf (ps.zip us) λo=>none) (cellsFrom (s.heap.objs.size+1) scope.names []) (bindC (envOfC qual scope s.heap.objs.size f cd).kindOf (ps.zip us) λo=>none) s1):
  Inv (uy CX P w K mg aq N qual scope f cd A outer s H E) [] (start N vs) H s1:=by
 have hpl:ps.length<=N.length:=by have:=congrArg length S.pre;rw[length_take] at this;lia
 obtain⟨h1,tk,rfl,O⟩:=x.done;have Y5:∀b:Addr,b∉(uy CX P w K mg aq N qual scope f cd A outer s H E).ex:=λb z=>absurd (show b∈([]:List Addr) from z) (by simp);refine⟨⟨e0.mod,S.kind,rfl,rfl,Nat.le_refl _,λy z c h1 h2=>?_,λy hy=>?_,λy c o h=>?_,λo=>hd,Around.frames_deeper e0.frames,.inr ⟨rfl,rfl⟩,λb z=>absurd z (Y5 b),e0.bs,e0.FN,λb o o=>Y5 b,λb z=>absurd z (Y5 b),e0.qR,e0.Ra⟩,
  rfl,e0.bare,Un.kept O,⟨_,x.toInCall.ns,λi y v h1 h2 h3=>?_⟩,λy c h=>⟨_,x.cell y c h⟩,e0.hok.fresh (Nat.le_refl _),λy c h=>?_,λp hp=>absurd (show p∈([]:LO0) from hp) (by simp),e0.hok.kept O,?_⟩
 ·exact name_of_addr x.apart (PySem.mem_of_lookup h1) (PySem.mem_of_lookup h2)
 ·have hy:scope.names.lookup y=some .cell\/scope.names.lookup y=some .free:=hy;rcases hy with hy|hy
  ·exact Vn hy
  ·exact absurd rfl (S.nofree _ (PySem.mem_of_lookup hy))
 ·exact le_of_lt (x.above y c (PySem.mem_of_lookup h))
 ·have hi:i<vs.length:=by
   unfold start at h2;by_cases hi:i<vs.length
   ·exact hi
   ·rw[getElem?_append_right (by simpa using hi)] at h2;rw[List.getElem?_replicate] at h2;split at h2<;>cases h2
  have ha:vs[i]? =some v:=by
   unfold start at h2;rw[getElem?_append_left (by simpa using hi),getElem?_map] at h2;cases e:vs[i]? with
   |none=>rw[e] at h2;cases h2
   |some a=>rw[e] at h2;cases h2;rfl
  obtain⟨u,hu,rv⟩:=r.get ha;have hp:ps[i]? =some y:=by
   rw[<-S.pre,getElem?_take_of_lt (by lia)];exact h1
  have ndP:ps.Nodup:=by rw[<-S.pre];exact S.nd.sublist (List.take_sublist _ _)
  refine⟨u,rv,?_⟩;rcases S.par y (mem_of_getElem? hp) with k|k
  ·exact .inl ⟨k,Rk ndP hp hu k⟩
  ·obtain⟨c,e⟩:=Vn (n:=s.heap.objs.size+1) k;refine .inr ⟨.inl k,c,e,?_⟩;have q:=x.cell y c e;rw[Rm ndP hp hu (by show scope.names.lookup y≠_;rw[k];decide)] at q;exact q
 ·exact e0.hok.fresh (le_of_lt (x.above y c (PySem.mem_of_lookup h)))
 ·unfold start;show _=N.length;rw[length_append,length_map,List.length_replicate];lia
theorem fn_of {CX:yd}{P:Program}{w:World}{K:Frag}{mg:Str->Option Value}{aq:Heap}{k:Nat}{f:Addr}{name qual:Str}{params:Arguments}{body:List Stmt}{scope:Scope}{dV kV doc pm cdv ct oc:Value}{an od:Option Addr}
  {osl:Array (Option Value)}{N ps:List Str}{sp:Sp} (lk:K.lookup f=some ⟨oc,od,.func (fnOf name qual params body scope dV kV doc pm an cdv ct),osl⟩) (hcd:codeIn K cdv qual=true) (S:Jf N ps scope)
  (len:∀vs H Q E,sp vs H Q E->vs.length=ps.length)
  (hbody:∀(A:Around) (outer:List Env) (s:Shared) (H:Hp) (vs:List V) (Q:VK) (E:XK),cW k (A.deeper (envOfC qual scope s.heap.objs.size f cdv))->sp vs H Q E-> ∃t,zV (uy CX P w K mg aq N qual scope f cdv A outer s H E) body t/\t {nx:=λz Z=>Q .non Z,rt:=Q} (start N vs) H):
  gJ P w K mg aq CX (k+1) f (fnOf name qual params body scope dV kV doc pm an cdv ct) ps sp:=by
 refine⟨len,λA outer s H args us vs Q E hr e0 hb r hsp=>?_⟩;have hl:=len _ _ _ _ hsp;have KX:K.In s.heap:=e0.mod.YM.keeps λb o e=>(e0.bs b o e).1;have lim:s.heap.NoLimit:=e0.mod.nolimit.keeps λb o e=>(e0.bs b o e).1;have hkind:∀y∈ps.zip us,scope.names.lookup y.1=some .local\/(scope.names.lookup y.1=some .cell/\((cellsFrom (s.heap.objs.size+1) scope.names []).lookup y.1).isSome=true):=λ⟨n,v⟩ hy=>by
  rcases S.par n (List.of_mem_zip hy).1 with q|q
  ·exact .inl q
  ·exact .inr ⟨q,PySem.W.cellsFrom_some _ _ _ (.inl q)⟩
 refine codeAny_call_function hr.depth (KX _ _ lk) rfl S.co S.gen rfl (PySem.W.codeRec_of KX hcd) (hb _ _ _ _ ?_);refine wpAny_newFunctionEnv_cells S.kind hkind λenv he s1 x=>?_;subst he;refine⟨lim.keeps x.toInCall.keep,codeAny_func ?_⟩;obtain⟨t,ht,hq⟩:=hbody A outer s H vs Q E (hr.deeper _) hsp;have I:Inv (uy CX P w K mg aq N qual scope f cdv A outer s H E) [] (start N vs) H s1:=inv_start S hr.hd e0 hl r x;refine wpAny_mono (ht [] s1 (start N vs) H _ I hq) (λfl s' hs=>?_) λe s' hs=>hs;have fin:∀{σ':St}{Z:Hp}{v:V}{u:Value},Inv (uy CX P w K mg aq N qual scope f cdv A outer s H E) [] σ' Z s'->RelV v u->Q v Z->CE outer P w H s Q u s':=
  λ{σ' Z v u} J rv q=>⟨v,Z,J.os,J.bare,J.aq,J.hok,rv,q⟩
 cases fl with
 |ret u=>
  obtain⟨v,σ',Z,J,rv,q⟩:=hs;exact fin J rv q
 |next=>
  obtain⟨σ',Z,J,q⟩:=hs;exact fin (v:=V.non) (u:=Value.none) J rfl q
 |brk=>
  obtain⟨_,_,_,q⟩:=hs;exact False.elim q
 |cont=>
  obtain⟨_,_,_,q⟩:=hs;exact False.elim q
end L2
namespace L2
section
variable {X:Cx}{x:Str}{p pos:Pos}{e:Expr}{es:List Expr}{t:TA}{id T:String}{r:List V->Hp->VK->Prop}
def tCB (r:List V->Hp->VK->Prop)(t:TA):TE:=λσ H Q=>t σ H λvs H1=>r vs H1 Q
theorem cF (hc:Ce X (.builtin id) r)(hg:Gl X x)(hm:X.mg x=none)(hv:bootBuiltins x=some (.builtin id))(ha:PA X (e::es) t)(hn:x≠"__name__":=by decide)(hdb:(x == ("__debug__":Str))=false:=by decide)
  (he:starEach (e::es) X.env=(false,eval e X.env)::starEach es X.env:=by rfl) (hpl:(backTo pos (starEach es X.env)).any (·.1)=false:=by rfl):PE X (.Call (.Name x p) (e::es) [] pos) (tCB r t):=by
 intro aj s σ H Q I h;refine wpAny_Call_Name_kw (pK I hg hm hv ?_ hn hdb);exact PyProof.Rows.callWith_builtin1 (bW (ha pos aj s σ H _ I h) λus s1 ⟨vs,H1,I1,r1,q1⟩=>hc aj s1 σ H1 vs us Q I1 r1 q1) he hpl
theorem Gd (hc:Ce X (.type T) r)(hg:Gl X x)(hm:X.mg x=none)(hv:bootBuiltins x=some (.type T))(ha:PA X (e::es) t)(hn:x≠"__name__":=by decide)(hdb:(x == ("__debug__":Str))=false:=by decide)
  (he:starEach (e::es) X.env=(false,eval e X.env)::starEach es X.env:=by rfl) (hpl:(backTo pos (starEach es X.env)).any (·.1)=false:=by rfl):PE X (.Call (.Name x p) (e::es) [] pos) (tCB r t):=by
 intro aj s σ H Q I h;refine wpAny_Call_Name_kw (pK I hg hm hv ?_ hn hdb);exact PyProof.Rows.callWith_type1 (bW (ha pos aj s σ H _ I h) λus s1 ⟨vs,H1,I1,r1,q1⟩=>hc aj s1 σ H1 vs us Q I1 r1 q1) he hpl
end
end L2
namespace HT
open PySem PyProof.Rows
section
open PySem.SeqAt
open PySem.AutoSeq1 (wpAny_loadPart')
open PySem.MeetsSeq PySem.MeetsSeq2 PySem.MeetsSeq3
end
section
variable {prog:Program}{w:World}{A:Around}{E:VS0}{s:Shared}
noncomputable def uR (n d:Nat):Option Int->Nat
 |none=>d
 |some v=>if v<0 then(v+(n:Int)).toNat else min v.toNat n
theorem PL (n d k:Nat):uR n d (some (k:Int))=min k n:=by
 show(if (k:Int)<0 then((k:Int)+(n:Int)).toNat else min (k:Int).toNat n)=min k n;rw[if_neg (by lia),toNat_natCast]
end
end HT
namespace L2
abbrev TO:=St->Hp->(Option Int->Hp->Prop)->Prop
def PO (X:Cx)(e:Option Expr)(t:TO):Prop:=
 ∀(aj:LO0) (s:Shared) (σ:St) (H:Hp) (Q:Option Int->Hp->Prop),Inv X aj σ H s->t σ H Q->
  wpAny (model X.prog X.w) X.A (evalPart e X.env) (λu s'=>∃o Z,Inv X aj σ Z s'/\IsPart u o/\Q o Z) X.xe s
def Y7:TO:=λz H Q=>Q none H
def tPart (t:TE):TO:=λσ H Q=>t σ H λx H1=>∃i,x=.int i/\Q (some i) H1
section
variable {X:Cx}{e:Expr}{te:TE}{lo hi:Option Expr}{tl th:TO}{pos p2:Pos}
theorem Y8:PO X none Y7:=by
 intro aj s σ H Q I h;rw[evalPart_none];exact wpAny_pure ⟨none,H,I,.none,h⟩
theorem je (h:PE X e te):PO X (some e) (tPart te):=by
 intro aj s σ H Q I hw;rw[evalPart_some];refine bW (h aj s σ H _ I hw) λu s1 ⟨x,H1,I1,r1,q1⟩=>?_;obtain⟨i,rfl,q⟩:=q1;obtain⟨t,rfl⟩:=r1;exact⟨some i,H1,I1,.int i t,q⟩
def SlR (X:Cx)(r:V->Option Int->Option Int->Hp->VK->Prop):Prop:=
 ∀(aj:LO0) (s:Shared) (σ:St) (H:Hp) (x:V) (v vl vu:Value) (lo hi:Option Int) (sl:Addr) (Q:VK),Inv X aj σ H s->RelV x v->s.heap.IsSliceOf sl vl vu .none->IsPart vl lo->IsPart vu hi->r x lo hi H Q->
  ∃T id,typeLookup (.type T) "__getitem__"=pure (some (.builtin id))/\s.TypeIs v T/\wpAny (model X.prog X.w) X.A (getItem v (.ref sl)) (EP X aj σ Q) X.xe s
def tSl (r:V->Option Int->Option Int->Hp->VK->Prop)(te:TE)(tl th:TO):TE:=λσ H Q=>te σ H λx H1=>tl σ H1 λl H2=>th σ H2 λu H3=>r x l u H3 Q
theorem qY {r:V->Option Int->Option Int->Hp->VK->Prop}(hr:SlR X r)(he:PE X e te)(hl:PO X lo tl)(hu:PO X hi th):PE X (.Subscript e (.Slice lo hi none p2) pos) (tSl r te tl th):=by
 intro aj s σ H Q I h;refine Subscript_ (bW (he aj s σ H _ I h) λv s1 ⟨x,H1,I1,r1,q1⟩=>?_);refine wpAny_Slice (bW (hl aj s1 σ H1 _ I1 q1) λvl s2 ⟨l,H2,I2,pl,q2⟩=>bW (hu aj s2 σ H2 _ I2 q2) λvu s3 ⟨u,H3,I3,pu,q3⟩=>?_);rw[evalPart_none];refine wpAny_pure ?_;have I4:Inv X aj σ H3 {s3 with heap:=s3.heap.push {cls:=.type "slice",data:=.fields #[vl,vu,.none]}}:=I3.kept (t':=s3.toks) λb ob q=>Heap.get?_push_of_some _ q
 obtain⟨T,id,hT,ht,hg⟩:=hr aj {s3 with heap:=s3.heap.push {cls:=.type "slice",data:=.fields #[vl,vu,.none]}} σ H3 x v vl vu l u s3.heap.objs.size Q I4 r1 (Heap.IsSliceOf.new ..) pl pu q3;show wpAny (model X.prog X.w) X.A (subscriptTail e (.Slice lo hi none p2) v (.ref s3.heap.objs.size)) (EP X aj σ Q) X.xe {s3 with heap:=s3.heap.push {cls:=.type "slice",data:=.fields #[vl,vu,.none]}};exact tail_any (ops:=[.ref s3.heap.objs.size,v]) ht hT hg (by with_unfolding_all rfl)
noncomputable def zq (xs:List V)(lo hi:Option Int):List V:=(xs.drop (HT.uR xs.length 0 lo)).take (HT.uR xs.length xs.length hi-HT.uR xs.length 0 lo)
theorem Yl (xs:List V)(lo hi:Option Int):(zq xs lo hi).length<=xs.length:=by
 unfold zq;rw[length_take,length_drop];lia
end
end L2
namespace L2
noncomputable def M8 (n:Nat)(i:Int):Option Nat:=if 0<=i then(if i<n then some i.toNat else none) else if-(n:Int)<=i then some (i+n).toNat else none
noncomputable def vX {α:Type}(xs:List α)(i:Int):Option α:=(M8 xs.length i).bind λj=>xs[j]?
theorem ixN_seq {n:Nat}{i:Int}{j:Nat}(h:M8 n i=some j):seqIndex? i n=some j/\j<n/\ -(n:Int)<=i/\i<n:=by
 unfold M8 at h;by_cases h0:0<=i
 ·rw[if_pos h0] at h;by_cases h1:i<n
  ·rw[if_pos h1] at h;have e:i.toNat=j:=Option.some.inj h;exact⟨by rw[seqIndex_of h0 h1,e],by lia,by lia,h1⟩
  ·rw[if_neg h1] at h;cases h
 ·rw[if_neg h0] at h;by_cases h1: -(n:Int)<=i
  ·rw[if_pos h1] at h;have e:(i+n).toNat=j:=Option.some.inj h;exact⟨by rw[seqIndex_neg (by lia) h1,e],by lia,h1,by lia⟩
  ·rw[if_neg h1] at h;cases h
theorem Y9 {α:Type}{xs:List α}{i:Int}{v:α}(h:vX xs i=some v):∃j,seqIndex? i xs.length=some j/\xs[j]? =some v/\j<xs.length/\ -(xs.length:Int)<=i/\i<xs.length:=by
 unfold vX at h;cases e:M8 xs.length i with
 |none=>rw[e] at h;cases h
 |some j=>
  rw[e] at h;obtain⟨h1,h2,h3,h4⟩:=ixN_seq e;exact⟨j,h1,h,h2,h3,h4⟩
theorem dU {α:Type}{xs:List α}{j:Nat}{v:α}(h:xs[j]? =some v):vX xs (j:Int)=some v:=by
 have hj:j<xs.length:=(List.getElem?_eq_some_iff.mp h).1;have e:M8 xs.length (j:Int)=some j:=by
  unfold M8;rw[if_pos (by lia),if_pos (by lia)];simp
 unfold vX;rw[e];exact h
theorem oE {α:Type}(xs:List α)(v:α):vX (xs++[v]) (-1)=some v:=by
 have hl:(xs++[v]).length=xs.length+1:=by simp
 have e:M8 (xs++[v]).length (-1)=some xs.length:=by
  unfold M8;rw[hl,if_neg (by decide),if_pos (by lia)]
  congr 1
  lia
 unfold vX;rw[e];show(xs++[v])[xs.length]? =some v;simp
def PlainIx (b:Expr):Prop:=∀o i,subscripted b false o i=operate [o,i] (getItem o i)
def IxR (X:Cx)(r:R2):Prop:=
 ∀(value slice:Expr) (aj:LO0) (s:Shared) (σ:St) (H:Hp) (x y:V) (v u:Value) (Q:VK),Inv X aj σ H s->RelV x v->RelV y u->r x y H Q->
  subscripted slice false v u=operate [v,u] (getItem v u)->wpAny (model X.prog X.w) X.A (subscriptTail value slice v u) (EP X aj σ Q) X.xe s
def MtR (X:Cx)(id:String)(r:V->List V->Hp->VK->Prop):Prop:=
 ∀(aj:LO0) (s:Shared) (σ:St) (H:Hp) (x:V) (xs:List V) (v:Value) (us:List Value) (Q:VK),Inv X aj σ H s->RelV x v->Vals xs us->r x xs H Q->
  wpAny (model X.prog X.w) X.A (call (.builtin id) (v::us)) (EP X aj σ Q) X.xe s
section
variable {X:Cx}{a b:Expr}{ta tb:TE}{pos:Pos}
theorem aJ {r:R2}(hr:IxR X r)(ha:PE X a ta)(hb:PE X b tb)(hs:PlainIx b:=by exact λz z=>rfl):PE X (.Subscript a b pos) (tOp r ta tb):=by
 intro aj s σ H Q I h;exact Subscript_ (binT ha hb I h λv u s2 x y H2 I2 rx ry q=>hr a b aj s2 σ H2 x y v u Q I2 rx ry q (hs _ _))
def Vo (K:Frag):R2:=λx y H Q=>∃p xs i v,x=.ref p/\y=.int i/\aF K H p xs/\vX xs i=some v/\Q v H
def PN (K:Frag):R2:=λx y H Q=>∃p xs i v,x=.ref p/\y=.int i/\bR K H p xs/\vX xs i=some v/\Q v H
theorem aH:IxR X (Vo X.K):=by
 intro value slice aj s σ H x y v u Q I rx ry h hs;obtain⟨p,xs,i,z,rfl,rfl,hq,he,q⟩:=h;cases rx;obtain⟨t,rfl⟩:=ry;obtain⟨its,r,pl,hz⟩:=I.list hq;obtain⟨j,h1,h2,h3,h4,h5⟩:=Y9 he;obtain⟨w,ew,rw'⟩:=r.get h2;have hl:=r.length;have hn:=MP;have fin:EP X aj σ Q w s:=⟨z,H,I,rw',q⟩;by_cases h0:0<=i
 ·have hj:i.toNat=j:=by
   rw[seqIndex_of h0 h5] at h1;exact Option.some.inj h1
  exact item_listR pl.isList h0 (by lia) (by rw[hj];simpa using ew) fin hs
 ·have hj:(i+(its.toArray.size:Int)).toNat=j:=by
   rw[seqIndex_neg (by lia) h4] at h1;rw[size_toArray, <-hl];exact Option.some.inj h1
  exact subscriptTail_builtinR (x:=w) pl.isList.typeIs slot_list_getitem.lookup
   (wpAny_getItem_list_neg (Q:=λr s'=>r=w/\EP X aj σ Q r s') pl.isList (by lia) (by rw[size_toArray]<;>lia) (by lia) (by rw[hj];simpa using ew) ⟨rfl,fin⟩) hs
theorem bT:IxR X (PN X.K):=by
 intro value slice aj s σ H x y v u Q I rx ry h hs;obtain⟨p,xs,i,z,rfl,rfl,hq,he,q⟩:=h;cases rx;obtain⟨t,rfl⟩:=ry;obtain⟨its,r,pl,hz⟩:=I.tuple hq;obtain⟨j,h1,h2,h3,h4,h5⟩:=Y9 he;obtain⟨w,ew,rw'⟩:=r.get h2;have hl:=r.length;have hn:=MP;have fin:EP X aj σ Q w s:=⟨z,H,I,rw',q⟩;exact subscriptTail_builtinR (x:=w) pl.typeIs slot_tuple_getitem.lookup
  (getItem_tuple (j:=j) (Q:=λr s'=>r=w/\EP X aj σ Q r s') pl (by lia) (by lia) (by rw[size_toArray, <-hl];exact h1) (by simpa using ew) ⟨rfl,fin⟩) hs
theorem Inv.aB {aj:LO0}{σ:St}{H:Hp}{s:Shared}{p:Addr}{xs:List V}(I:Inv X aj σ H s)(h:H p=some (.aB xs)):
  ∃(its:List Value) (n:Nat),Vals xs its/\s.heap.get? p=some {cls:=.type "list",data:=.seq its.toArray n}/\xs.length<=sizeLine:=by
 obtain⟨z,its,n,r,e⟩:=I.hok p _ h;exact⟨its,n,r,e,z⟩
theorem Vp (lo hi:Option Int)(n:Nat):(sliceBounds lo hi none n).1=((HT.uR n 0 lo:Nat):Int)/\(sliceBounds lo hi none n).2.1=((HT.uR n n hi:Nat):Int)/\(sliceBounds lo hi none n).2.2=1:=by
 refine⟨?_,?_,rfl⟩
 ·cases lo with
  |none=>simp[sliceBounds,HT.uR]
  |some i=>
   simp only[sliceBounds,HT.uR,Option.getD_none,show(1:Int)>0 by decide,if_true];by_cases h:i<0
   ·simp only[h,if_true]<;>lia
   ·simp only[h,if_false]<;>lia
 ·cases hi with
  |none=>simp[sliceBounds,HT.uR]
  |some i=>
   simp only[sliceBounds,HT.uR,Option.getD_none,show(1:Int)>0 by decide,if_true];by_cases h:i<0
   ·simp only[h,if_true]<;>lia
   ·simp only[h,if_false]<;>lia
theorem Tp (its:List Value)(lo hi:Option Int):slicePick its.toArray lo hi none=((its.drop (HT.uR its.length 0 lo)).take (HT.uR its.length its.length hi-HT.uR its.length 0 lo)).toArray:=by
 obtain⟨h1,h2,h3⟩:=Vp lo hi its.toArray.size;unfold slicePick;rw[h1,h2,h3];simp only[sliceRange_one,pick_run,size_toArray]<;>rfl
def rSlL (K:Frag):V->Option Int->Option Int->Hp->VK->Prop:=λx lo hi H Q=>∃a xs,x=.ref a/\aF K H a xs/\∀p,H p=none->Q (.ref p) (aN H p (.aB (zq xs lo hi)))
theorem vM:SlR X (rSlL X.K):=by
 intro aj s σ H x v vl vu lo hi sl Q I rx hs pl pu h;obtain⟨a,xs,rfl,hx,q⟩:=h;cases rx;obtain⟨its,r,ht,hz⟩:=I.list hx;have hlen:=r.length;refine⟨"list",_,slot_list_getitem.lookup,ht.isList.typeIs,?_⟩;refine wpAny_getItem_list_slice ht.isList hs pl pu .none (by simp) ?_ (by rw[size_toArray]<;>lia);rw[Tp, <-hlen];refine⟨.ref s.heap.objs.size,_,I.laid (t':=s.toks) (o:=.aB (zq xs lo hi)) (λb ob q=>Heap.get?_push_of_some _ q) (Nat.le_refl _) ?_,rfl,q _ (I.hok.fresh (Nat.le_refl _))⟩;exact⟨le_trans (Yl xs lo hi) hz,_,0,(r.drop (HT.uR xs.length 0 lo)).take (HT.uR xs.length xs.length hi-HT.uR xs.length 0 lo),Heap.get?_push_size _ rfl⟩
def vh:V->Bool
 | .non=>true
 | .bl _=>true
 | .int _=>true
 | .str _=>true
 |_=>false
noncomputable def Kh:V->V->Bool
 | .non,.non=>true
 | .bl a,.bl b=>a == b
 | .bl a,.int b=>(if a then 1 else 0) == b
 | .int a,.bl b=>a == (if b then 1 else 0)
 | .int a,.int b=>a == b
 | .str a,.str b=>a == b
 |_,_=>false
theorem eqAt_V {A:Around}{s:Shared}{y x:V}{u v:Value}(ry:RelV y u)(rx:RelV x v)(fy:vh y=true)(fx:vh x=true):SeqAt.EqAt A s u v (Kh y x):=by
 cases y with
 |non=>
  cases ry;cases x with
  |non=>cases rx;exact SeqAt.EqAt.same _
  |bl b=>cases rx;exact SeqAt.EqAt.none_bool b
  |int b=>obtain⟨t,rfl⟩:=rx;exact SeqAt.EqAt.none_int b t
  |str b=>obtain⟨t,rfl⟩:=rx;exact SeqAt.EqAt.none_str b t
  |_=>exact absurd (show false=true from fx) Bool.false_ne_true
 |bl a=>
  cases ry;cases x with
  |non=>cases rx;exact SeqAt.EqAt.bool_none a
  |bl b=>cases rx;exact SeqAt.EqAt.bool_bool a b
  |int b=>obtain⟨t,rfl⟩:=rx;exact SeqAt.EqAt.bool_int a b t
  |str b=>obtain⟨t,rfl⟩:=rx;exact SeqAt.EqAt.bool_str a b t
  |_=>exact absurd (show false=true from fx) Bool.false_ne_true
 |int a=>
  obtain⟨t',rfl⟩:=ry;cases x with
  |non=>cases rx;exact SeqAt.EqAt.int_none a t'
  |bl b=>cases rx;exact SeqAt.EqAt.int_bool a t' b
  |int b=>obtain⟨t,rfl⟩:=rx;exact SeqAt.EqAt.int_int a t' b t
  |str b=>obtain⟨t,rfl⟩:=rx;exact SeqAt.EqAt.int_str a t' b t
  |_=>exact absurd (show false=true from fx) Bool.false_ne_true
 |str a=>
  obtain⟨t',rfl⟩:=ry;cases x with
  |non=>cases rx;exact SeqAt.EqAt.str_none a t'
  |bl b=>cases rx;exact SeqAt.EqAt.str_bool a t' b
  |int b=>obtain⟨t,rfl⟩:=rx;exact SeqAt.EqAt.str_int a t' b t
  |str b=>obtain⟨t,rfl⟩:=rx;exact SeqAt.EqAt.str_str a t' b t
  |_=>exact absurd (show false=true from fx) Bool.false_ne_true
 |_=>exact absurd (show false=true from fy) Bool.false_ne_true
noncomputable def M9 (x:V)(u:Value):Bool:=match u with
 | .none=>Kh .non x
 | .bool b=>Kh (.bl b) x
 | .int i _=>Kh (.int i) x
 | .str z _=>Kh (.str z) x
 |_=>false
theorem eqU_of {x y:V}{u:Value}(r:RelV y u)(f:vh y=true):M9 x u=Kh y x:=by
 cases y with
 |non=>cases r;rfl
 |bl b=>cases r;rfl
 |int i=>obtain⟨t,rfl⟩:=r;rfl
 |str z=>obtain⟨t,rfl⟩:=r;rfl
 |_=>exact absurd (show false=true from f) Bool.false_ne_true
theorem PX {x:V}:∀{xs:List V}{us:List Value},Vals xs us->xs.all vh=true->us.any (M9 x)=xs.any λy=>Kh y x
 |_,_,.nil,_=>rfl
 |y::xs,u::us,.cons r t,f=>by
  rw[all_cons,and_eq_true] at f;rw[any_cons,any_cons,eqU_of r f.1,PX t f.2]
theorem K6 {A:Around}{s:Shared}{x:V}{v:Value}(rx:RelV x v)(fx:vh x=true):∀{xs:List V}{us:List Value},Vals xs us->xs.all vh=true->∀u∈us,SeqAt.EqAt A s u v (M9 x u)
 |_,_,.nil,_=>λu hu=>by cases hu
 |y::xs,u::us,.cons r t,f=>λu' hu=>by
  rw[all_cons,and_eq_true] at f;rcases mem_cons.mp hu with rfl|hu
  ·rw[eqU_of r f.1];exact eqAt_V r rx f.1 fx
  ·exact K6 rx fx t f.2 u' hu
def inV (x:V)(xs:List V):Bool:=xs.any λy=>Kh y x
def rIn (K:Frag)(neg:Bool):R2:=λx y H Q=>∃p xs,y=.ref p/\(aF K H p xs\/bR K H p xs)/\vh x=true/\xs.all vh=true/\Q (.bl (if neg then !inV x xs else inV x xs)) H
theorem op_in_seq:jk X (compareOp .In) (rIn X.K false):=by
 intro aj s σ H x y v u Q I rx ry h;obtain⟨p,xs,rfl,hq,fx,fs,q⟩:=h;cases ry;rcases hq with hq|hq
 ·obtain⟨its,r,pl,hz⟩:=I.list hq;refine SeqAt.in_listAt (M9 x) pl.isList (λw hw=>K6 rx fx r fs w (by simpa using hw)) ⟨.bl _,H,I,rfl,?_⟩;rw[show its.toArray.any (M9 x)=its.any (M9 x) by simp,PX r fs];exact q
 ·obtain⟨its,r,pl,hz⟩:=I.tuple hq;refine SeqAt.in_tupleAt (M9 x) pl (λw hw=>K6 rx fx r fs w (by simpa using hw)) ⟨.bl _,H,I,rfl,?_⟩;rw[show its.toArray.any (M9 x)=its.any (M9 x) by simp,PX r fs];exact q
theorem bU:Ce X (.builtin "len") (λxs H Q=>∃p ys,xs=[.ref p]/\(aF X.K H p ys\/bR X.K H p ys)/\Q (.int ys.length) H):=by
 intro aj s σ H xs us Q I r h;obtain⟨p,ys,rfl,hq,q⟩:=h;obtain⟨u,rfl,rx⟩:=vals1 r;cases rx;have hn:=MP;rcases hq with hq|hq
 ·obtain⟨its,r',pl,hz⟩:=I.list hq;have hlen:=r'.length;exact Calls.call_len_list pl.isList (by simp only[size_toArray]<;>lia) ⟨.int ys.length,H,I.tok _,⟨s.toks+1,by rw[size_toArray,hlen]⟩,q⟩
 ·obtain⟨its,r',pl,hz⟩:=I.tuple hq;have hlen:=r'.length;exact len_tuple pl (by simp only[size_toArray]<;>lia) ⟨.int ys.length,H,I.tok _,⟨s.toks+1,by rw[size_toArray,hlen]⟩,q⟩
theorem vY:Ce X (.type "list") (λxs H Q=>∃p ys,xs=[.ref p]/\(aF X.K H p ys\/bR X.K H p ys)/\∀l,H l=none->Q (.ref l) (aN H l (.aB ys))):=by
 intro aj s σ H xs us Q I r h;obtain⟨p,ys,rfl,hq,q⟩:=h;obtain⟨u,rfl,rx⟩:=vals1 r;cases rx;have fin:∀(its:List Value),Vals ys its->ys.length<=sizeLine->∀(h':Heap) (c':Nat),(∀b o',s.heap.get? b=some o'->h'.get? b=some o')->
   h'.get? s.heap.objs.size=some {cls:=.type "list",dict:=none,data:=.seq its.toArray c',slots:= #[]}->EP X aj σ Q (.ref s.heap.objs.size) {s with heap:=h'}:=λits r' hz h' c' kp e=>
  ⟨.ref s.heap.objs.size,_,I.laid (t':=s.toks) kp (Nat.le_refl _) (show iH X.prog X.w _ h' _ (.aB ys) from⟨hz,its,c',r',e⟩),rfl,q _ (I.hok.fresh (Nat.le_refl _))⟩
 rcases hq with hq|hq
 ·obtain⟨its,r',pl,hz⟩:=I.list hq;have hlen:=r'.length;obtain⟨o,ho,hc,n,hd⟩:=pl.isList;exact call_list_seq p (.inl rfl) ho hc hd (λh' c' kp e=>fin its r' hz h' c' kp e) (by simp only[size_toArray]<;>lia)
 ·obtain⟨its,r',pl,hz⟩:=I.tuple hq;have hlen:=r'.length;obtain⟨o,ho,hc,n,hd⟩:=pl;exact call_list_seq p (.inr rfl) ho hc hd (λh' c' kp e=>fin its r' hz h' c' kp e) (by simp only[size_toArray]<;>lia)
def tyV (K:Frag)(T:String)(x:V)(H:Hp):Prop:=match x with
 | .str _=>T="str"
 | .int _=>T="int"
 | .ref p=>(T="list"/\∃xs,aF K H p xs)\/(T="tuple"/\∃o,K.lookup p=some o/\o.cls=.type "tuple"/\o.dict=none)\/
   (T="dict"/\((∃kvs,H p=some (.dK kvs))\/∃kvs,H p=some (.dT kvs)))\/(T="set"/\∃S n,H p=some (.set S n))
 |_=>False
theorem tyV_is {aj:LO0}{σ:St}{H:Hp}{s:Shared}{T:String}{x:V}{v:Value}(I:Inv X aj σ H s)(r:RelV x v)(ty:tyV X.K T x H):
  s.TypeIs v T/\∀a,v=.ref a->∃ob,s.heap.get? a=some ob/\ob.dict=none:=by
 cases x with
 |str z=>
  obtain⟨t,rfl⟩:=r;cases(show T="str" from ty);exact⟨typeIs_str s z t,λy e=>nomatch e⟩
 |int i=>
  obtain⟨t,rfl⟩:=r;cases(show T="int" from ty);exact⟨typeIs_int s i t,λy e=>nomatch e⟩
 |ref p=>
  cases r;rcases ty with⟨rfl,xs,hq⟩|⟨rfl,o,O,hc,hd⟩|⟨rfl,O⟩|⟨rfl,S,n,O⟩
  ·obtain⟨its,_,pl,_⟩:=I.list hq;refine⟨pl.isList.typeIs,λa e=>?_⟩;cases e;obtain⟨o,n,e,c,hd,_⟩:=pl;exact⟨o,e,hd⟩
  ·refine⟨⟨o,I.sG p o O,hc⟩,λa e=>?_⟩;cases e;exact⟨o,I.sG _ o O,hd⟩
  ·have z:∃o,s.heap.get? p=some o/\o.ExactDict:=by
    rcases O with⟨kvs,O⟩|⟨kvs,O⟩
    ·obtain⟨_,_,_,_,o,_,_,e,ex,_⟩:=I.hok p _ O;exact⟨o,e,ex⟩
    ·obtain⟨_,_,_,_,o,_,_,e,ex,_⟩:=I.hok p _ O;exact⟨o,e,ex⟩
   obtain⟨o,e,ex⟩:=z;refine⟨⟨o,e,ex.1⟩,λa e2=>?_⟩;cases e2;exact⟨o,e,ex.2.1⟩
  ·obtain⟨o,_,_,_,e,ex,_⟩:=I.hok p _ O;refine⟨⟨o,e,ex.1⟩,λa e2=>?_⟩;cases e2;exact⟨o,e,ex.2.1⟩
 |_=>exact False.elim ty
def tBM0 (K:Frag)(T:String)(r:V->List V->Hp->VK->Prop)(to:TE):TE:=λσ H Q=>to σ H λx H1=>tyV K T x H1/\r x [] H1 Q
def Ge (K:Frag)(T:String)(r:V->List V->Hp->VK->Prop)(to:TE)(t:TA):TE:=λσ H Q=>to σ H λx H1=>tyV K T x H1/\t σ H1 λxs H2=>r x xs H2 Q
variable {o e:Expr}{es:List Expr}{to:TE}{t:TA}{name:Str}{apos cpos:Pos}{T id:String}{r:V->List V->Hp->VK->Prop}
theorem pe_bm0 (pa:PlainAttrs T)(slot:Slot T name id)(hty:typeOf (.builtin id)=pure (.type "method_descriptor"))(hm:MtR X id r)(ho:PE X o to)
  (hbase:attributeBase o name X.env (eval o X.env)=eval o X.env:=by rfl) (hline:(apos.endLine == cpos.line)=true:=by rfl):PE X (.Call (.Attribute o name apos) [] [] cpos) (tBM0 X.K T r to):=by
 intro aj s σ H Q I h;refine wpAny_Call_method0_late hbase hline (bW (ho aj s σ H _ I h) λv s1 ⟨x,H1,I1,r1,ty,q1⟩=>?_);obtain⟨h1,h2⟩:=tyV_is I1 r1 ty;exact⟨T,id,pa,slot,hty,h1,h2,Calls.callWith_builtin rfl (PySem.evalArgs_none (hm aj s1 σ H1 x [] v [] Q I1 r1 .nil q1))⟩
theorem iZ (pa:PlainAttrs T)(slot:Slot T name id)(hty:typeOf (.builtin id)=pure (.type "method_descriptor"))(hm:MtR X id r)(ho:PE X o to)(ha:PA X (e::es) t)
  (hbase:attributeBase o name X.env (eval o X.env)=eval o X.env:=by rfl)
  (hfew:((backTo cpos (starEach (e::es) X.env)).all (λx=> !x.1)&&(backToKw cpos (keywordEach [] X.env)).all (λx=>x.1.isSome) &&decide ((e::es).length+([]:List Keyword).length+(if ([]:List Keyword).isEmpty then 0 else 1)<30))=true:=by rfl)
  (hline:(apos.endLine == cpos.line)=true:=by rfl) (hs:starEach (e::es) X.env=(false,eval e X.env)::starEach es X.env:=by rfl) (hplain:(backTo cpos (starEach es X.env)).any (·.1)=false:=by rfl):
  PE X (.Call (.Attribute o name apos) (e::es) [] cpos) (Ge X.K T r to t):=by
 intro aj s σ H Q I h;refine wpAny_Call_method_late hbase hfew hline rfl (bW (ho aj s σ H _ I h) λv s1 ⟨x,H1,I1,r1,ty,q1⟩=>?_);obtain⟨h1,h2⟩:=tyV_is I1 r1 ty;refine⟨T,id,pa,slot,hty,h1,h2,?_⟩;have hA:=ha cpos aj s1 σ H1 _ I1 q1;rw[hs] at hA⊢;refine Calls.callWith_builtin (by show(false||(backTo cpos (starEach es X.env)).any (·.1))=false;rw[hplain]<;>rfl) (Calls.evalArgs_plain ?_)
 exact bW hA λus s2 ⟨vs,H2,I2,r2,q2⟩=>hm aj s2 σ H2 x vs v us Q I2 r1 r2 q2
end
end L2
namespace L2
def MtM (X:Cx)(id:String)(r:V->List V->Hp->VK->Prop):Prop:=
 ∀(aj:LO0) (s:Shared) (σ:St) (H:Hp) (x:V) (xs:List V) (v:Value) (us:List Value) (Q:VK),Inv X aj σ H s->RelV x v->Vals xs us->r x xs H Q->
  wpAny (model X.prog X.w) X.A (call (.builtin id) (v::us)) (EP X aj σ Q) X.xe s
theorem Vals.one:∀{x:V}{us:List Value},Vals [x] us->∃u,us=[u]/\RelV x u
 |_,_,.cons r .nil=>⟨_,rfl,r⟩
theorem Vals.zero:∀{us:List Value},Vals [] us->us=[]
 |_,.nil=>rfl
theorem Vals.dropLast {xs:List V}{us:List Value}(h:Vals xs us):Vals xs.dropLast us.dropLast:=by
 induction h with
 |nil=>exact .nil
 |cons r t ih=>
  cases t with
  |nil=>exact .nil
  |cons q t'=>exact .cons r ih
theorem Vals.eraseIdx:∀{xs:List V}{us:List Value} (i:Nat),Vals xs us->Vals (xs.eraseIdx i) (us.eraseIdx i)
 |_,_,_,.nil=>.nil
 |_,_,0,.cons _ t=>t
 |_,_,i+1,.cons r t=>.cons r (Vals.eraseIdx i t)
theorem Vals.reverse {xs:List V}{us:List Value}(h:Vals xs us):Vals xs.reverse us.reverse:=by
 induction h with
 |nil=>exact .nil
 |cons r t ih=>rw[reverse_cons,reverse_cons];exact Vals.append ih (.cons r .nil)
theorem Vals.rep {xs:List V}{us:List Value}(h:Vals xs us):∀k:Nat,Vals (replicate k xs).flatten (replicate k us).flatten
 |0=>.nil
 |k+1=>by
  rw[replicate_succ,replicate_succ,flatten_cons,flatten_cons];exact Vals.append h (Vals.rep h k)
theorem erase_last {α:Type}(l:List α):l.eraseIdx (l.length-1)=l.dropLast:=by
 induction l with
 |nil=>rfl
 |cons a r ih=>
  cases r with
  |nil=>rfl
  |cons b r=>
   have e:(a::b::r).length-1=((b::r).length-1)+1:=by
    have h1:(a::b::r).length=r.length+2:=rfl;have h2:(b::r).length=r.length+1:=rfl;lia
   rw[e,List.eraseIdx_cons_succ,ih]
   all_goals rfl
theorem foldl_rep (its:List Value):∀(k:Nat) (acc:List Value),
  foldl (λx1 x2=>x1++x2) acc.toArray (replicate k its.toArray)=(acc++(replicate k its).flatten).toArray
 |0,acc=>by simp
 |k+1,acc=>by
  have e:acc.toArray++its.toArray=(acc++its).toArray:=by simp
  have e2:(acc++its)++(replicate k its).flatten=acc++(replicate (k+1) its).flatten:=by
   rw[replicate_succ,flatten_cons,append_assoc]
  rw[<-e2, <-foldl_rep its k (acc++its), <-e,replicate_succ,foldl_cons]
section
variable {X:Cx}{aj:LO0}{σ:St}{H:Hp}{s:Shared}{l b:Addr}{xs ys zs:List V}
theorem Inv.lset {its its':List Value}{n:Nat}{f:Array Value->Array Value}{t':Nat}(I:Inv X aj σ H s)(hH:H l=some (.aB xs))
  (e:s.heap.get? l=some {cls:=.type "list",data:=.seq its.toArray n}) (hf:f its.toArray=its'.toArray) (hv:Vals ys its') (hz:ys.length<=sizeLine):
  Inv X aj σ (aN H l (.aB ys)) {s with heap:=s.heap.update l (Obj.mapSeq f),toks:=t'}:=by
 have q:=PySem.IsL.update e f;rw[hf] at q;refine I.write (x:=l) (e:=l) (by rw[hH];exact trivial) (.inl rfl) (λb' u hb hu=>(Heap.get?_update_other s.heap (Obj.mapSeq f) (Ne.symm hb)).trans hu) ⟨_,q⟩ ?_;exact⟨hz,its',_,hv,q⟩
theorem Inv.lnew {its:List Value}{t':Nat}(I:Inv X aj σ H s)(hv:Vals ys its)(hz:ys.length<=sizeLine):
  Inv X aj σ (aN H s.heap.objs.size (.aB ys)) {s with heap:=s.heap.push {cls:=.type "list",data:=.seq its.toArray},toks:=t'}:=
 I.laid (λz z q=>Heap.get?_push_of_some _ q) (Nat.le_refl _) ⟨hz,its,0,hv,Heap.get?_push_size _ rfl⟩
theorem Inv.fresh (I:Inv X aj σ H s):H s.heap.objs.size=none:=I.hok.fresh (Nat.le_refl _)
theorem Inv.K7 (I:Inv X aj σ H s)(hH:H l=some (.aB xs)):xs.length<=sizeLine/\∃(its:List Value) (n:Nat),Vals xs its/\xs.length=its.length/\s.heap.get? l=some {cls:=.type "list",data:=.seq its.toArray n}:=by
 obtain⟨z,its,n,r,e⟩:=I.hok l _ hH;exact⟨z,its,n,r,r.length,e⟩
theorem Vq {n:Nat}(h:n<=sizeLine):Builtin.List.listTooLong n=false:=by
 unfold Builtin.List.listTooLong;exact decide_eq_false (by lia)
end
section
variable {X:Cx}
def rAppend:V->List V->Hp->VK->Prop:=λx vs H Q=>∃l xs y,x=.ref l/\vs=[y]/\H l=some (.aB xs)/\xs.length<sizeLine/\Q .non (aN H l (.aB (xs++[y])))
theorem gK:MtM X "list.append" rAppend:=by
 intro aj s σ H x vs v us Q I rx rv h;obtain⟨l,xs,y,rfl,rfl,hH,hz,q⟩:=h;cases rx;obtain⟨u,rfl,ru⟩:=rv.one;obtain⟨z,its,n,r,hl,e⟩:=I.K7 hH;refine call_meets F.slot_list_append ⟨_,e,rfl⟩ F.entry_list_append (F.args_list_append_2 _ _) (PySem.list_append l its.toArray n u (by rw[size_toArray];lia)) ⟨e,?_⟩;refine⟨.non,_,I.lset (its':=its++[u]) hH e (by simp) (r.append (.cons ru .nil)) ?_,rfl,q⟩;rw[length_append,List.length_singleton];lia
def rExtend:V->List V->Hp->VK->Prop:=λx vs H Q=>∃l b xs zs,x=.ref l/\vs=[.ref b]/\H l=some (.aB xs)/\H b=some (.aB zs)/\xs.length+zs.length<=sizeLine/\Q .non (aN H l (.aB (xs++zs)))
theorem lG:MtM X "list.extend" rExtend:=by
 intro aj s σ H x vs v us Q I rx rv h;obtain⟨l,b,xs,zs,rfl,rfl,hH,hB,hz,q⟩:=h;cases rx;obtain⟨u,rfl,ru⟩:=rv.one;cases ru;obtain⟨z,its,n,r,hl,e⟩:=I.K7 hH;obtain⟨z2,its2,n2,r2,hl2,e2⟩:=I.K7 hB;have hsz:its.toArray.size+its2.toArray.size<=sizeLine:=by rw[size_toArray,size_toArray];lia
 have Jg:¬(!its.toArray.isEmpty&&Builtin.List.listTooLong (its.toArray.size+its2.toArray.size))=true:=by
  rw[Vq hsz,Bool.and_false];exact Bool.false_ne_true
 refine call_meets F.slot_list_extend ⟨_,e,rfl⟩ F.entry_list_extend (F.args_list_extend_2 _ _)
  (AutoSeq1.list_extend_list_list_0 l its.toArray n b its2.toArray n2 Jg (by rw[size_toArray];lia) (by lia)) ⟨e,e2,?_⟩
 refine⟨.non,_,I.lset (its':=its++its2) hH e (by simp) (r.append r2) ?_,rfl,q⟩;rw[length_append];lia
def rPop:V->List V->Hp->VK->Prop:=λx vs H Q=>∃l xs y,x=.ref l/\vs=[]/\H l=some (.aB xs)/\xs[xs.length-1]? =some y/\Q y (aN H l (.aB xs.dropLast))
theorem mt_pop:MtM X "list.pop" rPop:=by
 intro aj s σ H x vs v us Q I rx rv h;obtain⟨l,xs,y,rfl,rfl,hH,hy,q⟩:=h;cases rx;have hus:=rv.zero;subst hus;obtain⟨z,its,n,r,hl,e⟩:=I.K7 hH;obtain⟨u,hu,ru⟩:=r.get hy;have hy':its.toArray[its.toArray.size-1]? =some u:=by
  show its.toArray[its.length-1]? =some u;rw[<-Array.getElem?_toList, <-hl];exact hu
 refine call_meets F.slot_list_pop ⟨_,e,rfl⟩ F.entry_list_pop (F.args_list_pop_1 _) (MeetsSeq.list_pop_last l its.toArray n u hy' (by rw[size_toArray];lia)) ⟨e,?_⟩;refine⟨y,_,I.lset (its':=its.dropLast) hH e ?_ r.dropLast ?_,ru,q⟩
 ·show its.toArray.eraseIdxIfInBounds (its.toArray.size-1)=its.dropLast.toArray;rw[size_toArray,List.eraseIdxIfInBounds_toArray,erase_last]
 ·rw[List.length_dropLast];lia
def rCat:R2:=λx y H Q=>∃l b xs zs,x=.ref l/\y=.ref b/\H l=some (.aB xs)/\H b=some (.aB zs)/\xs.length+zs.length<=sizeLine/\∀p,H p=none->Q (.ref p) (aN H p (.aB (xs++zs)))
theorem sO:jk X (binaryOp .Add) rCat:=by
 intro aj s σ H x y v u Q I rx ry h;obtain⟨l,b,xs,zs,rfl,rfl,hH,hB,hz,q⟩:=h;cases rx;cases ry;obtain⟨z,its,n,r,hl,e⟩:=I.K7 hH;obtain⟨z2,its2,n2,r2,hl2,e2⟩:=I.K7 hB;refine PySem.P.add_list e e2 ?_ (by rw[size_toArray,size_toArray];lia);have ea:its.toArray++its2.toArray=(its++its2).toArray:=by simp
 rw[ea];exact⟨.ref _,_,I.lnew (t':=s.toks) (r.append r2) (by rw[length_append];lia),rfl,q _ I.fresh⟩
def rRep:R2:=λx y H Q=>∃l k xs,x=.ref l/\y=.int k/\H l=some (.aB xs)/\ -(2^63)<=k/\k<2^63/\xs.length*k.toNat<=sizeLine/\
 ∀p,H p=none->Q (.ref p) (aN H p (.aB (replicate k.toNat xs).flatten))
theorem len_rep {α:Type}(xs:List α)(k:Nat):(replicate k xs).flatten.length=k*xs.length:=by
 induction k with
 |zero=>simp
 |succ k ih=>rw[replicate_succ,flatten_cons,length_append,ih,succ_mul,Nat.add_comm]
theorem Nb:jk X (binaryOp .Mult) rRep:=by
 intro aj s σ H x y v u Q I rx ry h;obtain⟨l,k,xs,rfl,rfl,hH,h1,h2,hz,q⟩:=h;cases rx;obtain⟨t,rfl⟩:=ry;obtain⟨z,its,n,r,hl,e⟩:=I.K7 hH;have hlen:its.toArray.size*k.toNat<=sizeLine:=by rw[size_toArray, <-hl];exact hz
 have hcap:¬its.toArray.size*k.toNat>(2^63-1)/8:=by
  have:(sizeLine:Nat)<=(2^63-1)/8:=by decide
  lia
 have hfit:¬(!Builtin.List.listFitsIndex k)=true:=by
  rw[fitsIndex_both h1 h2];exact Bool.false_ne_true
 have Jg:¬Builtin.List.listTooLong (its.toArray.size*k.toNat)=true:=by
  rw[Vq hlen];exact Bool.false_ne_true
 have hnew:foldl (λx1 x2=>x1++x2) #[] (replicate (if its.toArray.isEmpty=true then 0 else k.toNat) its.toArray)=(replicate k.toNat its).flatten.toArray:=by
  have f0:∀m:Nat,foldl (λx1 x2=>x1++x2) #[] (replicate m its.toArray)=(replicate m its).flatten.toArray:=λm=>by
   have:=foldl_rep its m [];rw[nil_append] at this;exact this
  rw[f0];cases its with
  |nil=>simp
  |cons a r'=>rw[if_neg (by simp)]
 refine wpAny_binaryOp_repeat_ref (T:="list") (U:="int") (by decide) ⟨_,e,rfl⟩ (λs'=>typeIs_int s' k t) noFill_list_mul F.fills_int_mul F.slot_int_rmul repeat_list F.slot_int_index.lookup
  (call_meets F.slot_int_rmul (typeIs_int s k t) F.entry_int_rmul (F.args_int_rmul_2 _ _) (int___rmul___int_list k t l its.toArray n) ⟨e,rfl,⟨_,e,rfl⟩,call_meets F.slot_list_mul ⟨_,e,rfl⟩ F.entry_list_mul (F.args_list_mul_2 _ _) (AutoListH.list___mul___list_int_3 l its.toArray n k t hfit hcap Jg) ⟨e,?_⟩⟩)
 rw[hnew];exact⟨.ref _,_,I.lnew (t':=s.toks) (r.rep k.toNat) (by rw[len_rep,mul_comm];exact hz),rfl,q _ I.fresh⟩
end
section
variable {prog:Program}{w:World}{A:Around}{E:VS0}{s:Shared}
end
section
variable {X:Cx}
end
end L2
namespace L2
theorem Vals.ints:∀{ns:List Int}{us:List Value},Vals (ns.map V.int) us->IntsAre us ns
 |[],us,h=>by
  rw[map_nil] at h;cases h;exact IntsAre.nil
 |n::ns,us,h=>by
  rw[map_cons] at h;cases h with
  |cons r t=>
   obtain⟨k,rfl⟩:=r;exact IntsAre.cons n k (Vals.ints t)
theorem Vals.bls:∀{bs:List Bool}{us:List Value},Vals (bs.map V.bl) us->us=bs.map Value.bool
 |[],us,h=>by
  rw[map_nil] at h;cases h;rfl
 |b::bs,us,h=>by
  rw[map_cons] at h;cases h with
  |cons r t=>
   cases r;rw[Vals.bls t,map_cons]
theorem Vals.ref1 {a:Addr}{us:List Value}(r:Vals [V.ref a] us):us=[Value.ref a]:=by
 cases r with
 |cons r t=>
  cases t;cases r;rfl
section
variable {prog:Program}{w:World}{A:Around}{E:VS0}{s:Shared}{l:Addr}{its:List Value}{ns:List Int}{Q:VS0}
theorem sum_raw (hh:A.handled=none)(hl:s.heap.IsList l its.toArray)(hi:IntsAre its ns)
  (h:∀h' tk t',(∀b o,s.heap.get? b=some o->h'.get? b=some o)->Q (.int ns.sum t') {s with heap:=h',toks:=tk}):wpAny (model prog w) A (call (.builtin "sum") [.ref l]) Q E s:=by
 obtain⟨xs,e⟩:=hi.allInts.items;have hn:numsOf (intItems xs).toList=ns:=by rw[<-e];exact hi.numsOf
 rw[nums_intItems] at hn;rw[e] at hl;refine PySem.sum_intListG hh hl λh' tk t' O=>?_;have:=h h' tk t' O;rw[preSum_eq,List.take_of_length_le (by simp),hn];exact this
end
section
variable {X:Cx}
def rSum (K:Frag):List V->Hp->VK->Prop:=λvs H Q=>∃(a:Addr) (ns:List Int),vs=[V.ref a]/\aF K H a (ns.map V.int)/\Q (.int ns.sum) H
theorem cr_sum (hc:X.calm=true):Ce X (.builtin "sum") (rSum X.K):=by
 intro aj s σ H vs us Q I r h;obtain⟨a,ns,rfl,hs,q⟩:=h;obtain⟨its,rv,hl,_⟩:=I.list hs;rw[Vals.ref1 r];exact sum_raw (I.ok.hd hc) hl.isList rv.ints λh' tk t' O=>⟨.int _,H,I.kept O,⟨_,rfl⟩,q⟩
end
section
variable {X:Cx}
end
section
variable {X:Cx}
end
theorem iter_any {prog:Program}{w:World}{A:Around}{E:VS0}{s:Shared}{l:Addr}{items:Array Value}{Q:VS0}(hl:s.heap.IsList l items)
  (h:∀s₂:Shared,s₂={s with heap:=s.heap.push {cls:=.type "list_iterator",data:=.fields #[.ref l,.int 0 0]}}->
   (s₂.heap.IsListIter s.heap.objs.size l 0/\s₂.heap.IsList l items)->l≠s.heap.objs.size->Q (.ref s.heap.objs.size) s₂):wpAny (model prog w) A (pyIter (.ref l)) Q E s:=by
 have hlt:l<s.heap.objs.size:=by obtain⟨_,e,_⟩:=hl;exact Heap.lt_size e
 exact wpAny_pyIter_list hl (h _ rfl ⟨⟨_,Heap.get?_push_size _ rfl,rfl,rfl⟩,hl.push _⟩ (ne_of_lt hlt))
theorem Ym {prog:Program}{w:World}{A:Around}{bs:List Bool}{its:List Value}(e:its=bs.map Value.bool):
  TruthOf prog w A (λi v=>its.toArray[i]? =some v) (λi=>bs.getD i false):=λi v s Q E hv hq=>by
 have hv':its[i]? =some v:=by simpa using hv
 rw[e,getElem?_map] at hv';obtain⟨b,hb,rfl⟩:=map_eq_some_iff.mp hv';have hg:bs.getD i false=b:=by rw[getD_eq_getElem?_getD,hb]<;>rfl
 have hq':Q (bs.getD i false) s:=hq;rw[hg] at hq';exact wpAny_truthy_bool hq'
theorem all_range:∀bs:List Bool,(range bs.length).all (λi=>bs.getD i false)=bs.all id
 |[]=>rfl
 |b::bs=>by
  rw[length_cons,List.range_succ_eq_map,all_cons,List.all_map,all_cons, <-all_range bs]
  all_goals rfl
section
variable {X:Cx}
def rAll (K:Frag):List V->Hp->VK->Prop:=λvs H Q=>∃(a:Addr) (bs:List Bool),vs=[V.ref a]/\aF K H a (bs.map V.bl)/\Q (.bl (bs.all id)) H
theorem cr_all (hc:X.calm=true):Ce X (.builtin "all") (rAll X.K):=by
 intro aj s σ H vs us Q I r h;obtain⟨a,bs,rfl,hs,q⟩:=h;obtain⟨its,rv,hl,_⟩:=I.list hs;rw[Vals.ref1 r];have hb:=rv.bls;refine call_all_walk (iter_any hl.isList λs₂ e2 st hne=>?_);subst e2;refine⟨_,_,_,_,_,_,_,rfl,Walks.list (A:=X.A.in1) (I.ok.hd hc) _ a hne its.toArray,st,Ym hb,λh' tk O=>?_⟩;refine⟨.bl _,H,I.kept λb o eo=>O b o (λhmem=>?_) (Heap.get?_push_of_some _ eo),?_,q⟩
 ·rcases mem_cons.mp hmem with e1|hmem
  ·exact absurd (e1▸Heap.lt_size eo) (lt_irrefl _)
  ·cases hmem
 ·show Value.bool _=Value.bool _;rw[<-all_range,hb,size_toArray,length_map]
end
mutual
inductive Dp (K:Frag)(H:Hp):V->PyData->Prop
 |non:Dp K H .non .none
 |bl (b:Bool):Dp K H (.bl b) (.bool b)
 |int (i:Int):Dp K H (.int i) (.int i)
 |str (x:Str):Dp K H (.str x) (.str x)
 |aB {a:Addr}{xs:List V}{ds:List PyData}:aF K H a xs->Jh K H xs ds->Dp K H (.ref a) (.list ds)
 |tup {a:Addr}{xs:List V}{ds:List PyData}:bR K H a xs->Jh K H xs ds->Dp K H (.ref a) (.tuple ds)
inductive Jh (K:Frag)(H:Hp):List V->List PyData->Prop
 |nil:Jh K H [] []
 |cons {v:V}{vs:List V}{d:PyData}{ds:List PyData}:Dp K H v d->Jh K H vs ds->Jh K H (v::vs) (d::ds)
end
section
variable {X:Cx}{aj:LO0}{σ:St}{H:Hp}{s:Shared}
mutual
theorem Dp.reads (I:Inv X aj σ H s):∀(d:PyData) (v:V) (u:Value),Dp X.K H v d->RelV v u->∃as,Reads s.heap u d as
 | .none,_,_,h,r=>by
  cases h;cases r;exact⟨_,Reads.none⟩
 | .bool b,_,_,h,r=>by
  cases h;cases r;exact⟨_,Reads.bool b⟩
 | .int i,_,_,h,r=>by
  cases h;obtain⟨t,rfl⟩:=r;exact⟨_,Reads.int i t⟩
 | .str x,_,_,h,r=>by
  cases h;obtain⟨t,rfl⟩:=r;exact⟨_,Reads.str x t⟩
 | .list ds,_,_,h,r=>by
  cases h with
  |aB hs ha=>
   cases r;obtain⟨its,rv,⟨o,n,ho,hc,_,hd⟩,_⟩:=I.list hs;obtain⟨as,hr⟩:=Dp.readsAll I ds _ its ha rv;exact⟨_,Reads.list ho hc hd hr⟩
 | .tuple ds,_,_,h,r=>by
  cases h with
  |tup hs ha=>
   cases r;obtain⟨its,rv,⟨o,ho,hc,n,hd⟩,_⟩:=I.tuple hs;obtain⟨as,hr⟩:=Dp.readsAll I ds _ its ha rv;exact⟨_,Reads.tuple ho hc hd hr⟩
 | .dict _,_,_,h,_=>by cases h
theorem Dp.readsAll (I:Inv X aj σ H s):∀(ds:List PyData) (vs:List V) (us:List Value),Jh X.K H vs ds->Vals vs us->∃as,ReadsAll s.heap us ds as
 |[],_,_,h,r=>by
  cases h;cases r;exact⟨_,ReadsAll.nil⟩
 |d::ds,_,_,h,r=>by
  cases h with
  |cons h1 h2=>
   cases r with
   |cons r1 r2=>
    obtain⟨as,q1⟩:=Dp.reads I d _ _ h1 r1;obtain⟨bs,q2⟩:=Dp.readsAll I ds _ _ h2 r2;exact⟨_,ReadsAll.cons q1 q2⟩
end
end
section
variable {X:Cx}
def rEqD (K:Frag):R2:=λx y H Q=>∃d e,Dp K H x d/\Dp K H y e/\SeqAt.shaped d=true/\SeqAt.shaped e=true/\Q (.bl (PyData.eqv d e)) H
def rNeD (K:Frag):R2:=λx y H Q=>∃d e,Dp K H x d/\Dp K H y e/\SeqAt.shaped d=true/\SeqAt.shaped e=true/\Q (.bl (!PyData.eqv d e)) H
theorem Vr (hu:X.A.units+64<cLine):jk X (compareOp .Eq) (rEqD X.K):=by
 intro aj s σ H x y v u Q I rx ry h;obtain⟨d,e,hd,he,sd,se,q⟩:=h;obtain⟨as,r1⟩:=Dp.reads I d x v hd rx;obtain⟨bs,r2⟩:=Dp.reads I e y u he ry;exact SeqAt.compareEq_shaped r1 r2 sd se hu ⟨.bl _,H,I,rfl,q⟩
theorem op_neD (hu:X.A.units+64<cLine):jk X (compareOp .NotEq) (rNeD X.K):=by
 intro aj s σ H x y v u Q I rx ry h;obtain⟨d,e,hd,he,sd,se,q⟩:=h;obtain⟨as,r1⟩:=Dp.reads I d x v hd rx;obtain⟨bs,r2⟩:=Dp.reads I e y u he ry;exact SeqAt.compareNe_shaped r1 r2 sd se hu ⟨.bl _,H,I,rfl,q⟩
end
end L2
namespace L2
abbrev CellAt (h:Heap)(c:Addr)(v:Option Value):Prop:=h.IsCell c v
noncomputable def relS (scope sc:Scope):Scope:=
 {scope with names:=scope.names.map λ(n,k)=>if (k == .free&&sc.kind == .function&&sc.names.lookup n == some .cell) then(n,.cell) else(n,k)}
noncomputable def dW (cells:List (Str×Addr)):List (Str×NameKind)->List (Str×Addr)->List (Str×Addr)
 |[],acc=>acc
 |(n,k)::r,acc=>if k == .free then dW cells r ((n,(cells.lookup n).getD 0)::acc) else dW cells r acc
theorem Gf (env:Env)(f:Str×NameKind->List (Str×Addr)->Sem (ForInStep (List (Str×Addr))))
  (hf:∀n k c,f (n,k) c=if k == .free then(do let a<-cellOf env n;pure (.yield ((n,a)::c))) else pure (.yield c)):
  ∀(names:List (Str×NameKind)) (acc:List (Str×Addr)),(∀y∈names,y.2=.free->∃c,env.cells.lookup y.1=some c)->forIn names acc f=pure (dW env.cells names acc)
 |[],acc,_=>by rw[List.forIn_nil];rfl
 |(n,k)::r,acc,h=>by
  rw[List.forIn_cons,hf];have ih:=λacc=>Gf env f hf r acc λy hy=>h y (mem_cons_of_mem _ hy);unfold dW;by_cases O:(k == NameKind.free)=true
  ·rw[if_pos O,if_pos O];obtain⟨c,hc⟩:=h (n,k) mem_cons_self (by simpa using O);have e:cellOf env n=pure c:=by unfold cellOf;rw[hc]
   rw[e];have e2:(env.cells.lookup n).getD 0=c:=by rw[hc];rfl
   rw[e2];exact ih _
  ·rw[if_neg O,if_neg O];exact ih _
theorem closure_ok {scope:Scope}{env:Env}(h:∀y∈scope.names,y.2=.free->∃c,env.cells.lookup y.1=some c):closureFor scope env=pure (dW env.cells scope.names []):=by
 simp only[closureFor];rw[Gf env _ (λn k c=>rfl) scope.names [] h];rfl
theorem mem_lookup {α:Type}:∀{l:List (Str×α)}{n:Str}{c:α},(n,c)∈l->∃c',l.lookup n=some c'
 |(k,v)::r,n,c,h=>by
  rw[lookup_cons];cases hb:n == k with
  |true=>exact⟨_,rfl⟩
  |false=>
   rcases mem_cons.mp h with e|h
   ·cases e;simp at hb
   ·exact mem_lookup h
theorem rY {cells:List (Str×Addr)}:∀{names:List (Str×NameKind)}{acc:List (Str×Addr)}{n:Str}{c:Addr},(n,c)∈dW cells names acc->(n,c)∈acc\/((n,.free)∈names/\c=(cells.lookup n).getD 0)
 |[],_,_,_,h=>.inl h
 |(m,k)::r,acc,n,c,h=>by
  unfold dW at h;split at h
  ·rename_i O;have O:k=.free:=by simpa using O
   rcases rY h with h|⟨h1,h2⟩
   ·rcases mem_cons.mp h with e|h
    ·cases e;exact .inr ⟨O▸mem_cons_self,rfl⟩
    ·exact .inl h
   ·exact .inr ⟨mem_cons_of_mem _ h1,h2⟩
  ·rcases rY h with h|⟨h1,h2⟩
   ·exact .inl h
   ·exact .inr ⟨mem_cons_of_mem _ h1,h2⟩
theorem zu {cells:List (Str×Addr)}:∀{names:List (Str×NameKind)}{acc:List (Str×Addr)}{p:Str×Addr},p∈acc->p∈dW cells names acc
 |[],_,_,h=>h
 |(m,k)::r,acc,p,h=>by
  unfold dW;split
  ·exact zu (mem_cons_of_mem _ h)
  ·exact zu h
theorem zx {cells:List (Str×Addr)}:∀{names:List (Str×NameKind)}{acc:List (Str×Addr)}{n:Str},(n,.free)∈names->(n,(cells.lookup n).getD 0)∈dW cells names acc
 |(m,k)::r,acc,n,h=>by
  unfold dW;rcases mem_cons.mp h with e|h
  ·cases e;exact zu mem_cons_self
  ·split
   ·exact zx h
   ·exact zx h
theorem sS:∀{names:List (Str×NameKind)}{h:Heap}{acc:List (Str×Addr)}{x:Str}{c:Addr},(x,c)∈cellsFrom h.objs.size names acc->
  (x,c)∈acc\/((x,.cell)∈names/\h.objs.size<=c/\CellAt (pushCells h names) c none)
 |[],_,_,_,_,h=>.inl h
 |(n,k)::r,h,acc,x,c,hm=>by
  unfold cellsFrom at hm;unfold pushCells;split at hm
  ·rename_i O;rw[if_pos O];have O:k=.cell:=by simpa using O
   rw[<-Heap.size_push h {cls:=.type "cell",data:=.cell none}] at hm;rcases sS hm with hm|⟨h1,h2,h3⟩
   ·rcases mem_cons.mp hm with e|hm
    ·cases e;exact .inr ⟨O▸mem_cons_self,Nat.le_refl _,_,pushCells_keeps r _ _ _ (Heap.get?_push_size _ rfl),rfl⟩
    ·exact .inl hm
   ·rw[Heap.size_push] at h2;exact .inr ⟨mem_cons_of_mem _ h1,Nat.le_of_succ_le h2,h3⟩
  ·rename_i O;rw[if_neg O];rcases sS hm with hm|⟨h1,h2,h3⟩
   ·exact .inl hm
   ·exact .inr ⟨mem_cons_of_mem _ h1,h2,h3⟩
theorem yg:∀{names:List (Str×NameKind)}{n:Nat}{acc:List (Str×Addr)}{p:Str×Addr},p∈acc->p∈cellsFrom n names acc
 |[],_,_,_,h=>h
 |(m,k)::r,n,acc,p,h=>by
  unfold cellsFrom;split
  ·exact yg (mem_cons_of_mem _ h)
  ·exact yg h
theorem Gg:∀{names:List (Str×NameKind)}{n:Nat}{acc:List (Str×Addr)}{x:Str},(x,.cell)∈names->∃c,(x,c)∈cellsFrom n names acc
 |(m,k)::r,n,acc,x,h=>by
  unfold cellsFrom;rcases mem_cons.mp h with e|h
  ·cases e;exact⟨n,yg mem_cons_self⟩
  ·split
   ·exact Gg h
   ·exact Gg h
theorem Gh:∀{names:List (Str×NameKind)}{h:Heap}{acc:List (Str×Addr)}{x y:Str}{c:Addr},(∀p∈acc,p.2<h.objs.size)->(∀x y c,(x,c)∈acc->(y,c)∈acc->x=y)->
  (x,c)∈cellsFrom h.objs.size names acc->(y,c)∈cellsFrom h.objs.size names acc->x=y
 |[],_,_,_,_,_,_,hi,h1,h2=>hi _ _ _ h1 h2
 |(n,k)::r,h,acc,x,y,c,hl,hi,h1,h2=>by
  unfold cellsFrom at h1 h2;split at h1
  ·rename_i O;rw[if_pos O] at h2;rw[<-Heap.size_push h {cls:=.type "cell",data:=.cell none}] at h1 h2;refine Gh (h:=h.push _) (λp hp=>?_) (λx y c a b=>?_) h1 h2
   ·rw[Heap.size_push];rcases mem_cons.mp hp with rfl|hp
    ·exact Nat.lt_succ_self _
    ·exact Nat.lt_succ_of_lt (hl p hp)
   ·rcases mem_cons.mp a with e|a<;>rcases mem_cons.mp b with e'|b
    ·cases e;cases e';rfl
    ·cases e;exact absurd (hl _ b) (lt_irrefl _)
    ·cases e';exact absurd (hl _ a) (lt_irrefl _)
    ·exact hi _ _ _ a b
  ·rename_i O;rw[if_neg O] at h2;exact Gh hl hi h1 h2
theorem Yn {M:Model}{A:Around}{E:VS0}{s:Shared}{scope:Scope}{globals:Addr}{closure:List (Str×Addr)}{qual:Str}{func:Option Addr}{code:Value}{around:Env}{builtins:Addr}{Q:Env->Shared->Prop}
  (h:Q (newEnv scope s.heap.objs.size globals (cellsFrom (s.heap.objs.size+1) scope.names closure) qual func code (some around) builtins) {s with heap:=pushCells (s.heap.push {cls:=.type "dict",data:=.dict #[]}) scope.names}):
  wpAny M A (newFunctionEnv scope globals closure [] qual func code (some around) builtins) Q E s:=by
 simp only[newFunctionEnv,Option.isSome_some,if_true];refine wpAny_bind (wpAny_alloc ?_);refine wpAny_bind (wpAny_layCells _ (λn k c=>rfl) scope.names closure _ _ ?_);rw[show({s with heap:=s.heap.push {cls:=.type "dict",data:=.dict #[]}}:Shared).heap.objs.size=s.heap.objs.size+1 from Heap.size_push ..]
 rw[List.forIn_nil];exact wpAny_bind (wpAny_pure (wpAny_pure h))
theorem zy {sc:Scope}:∀{names:List (Str×NameKind)}{x:Str}{k:NameKind},
  (names.map λ(n,k)=>if (k == NameKind.free&&sc.kind == .function&&sc.names.lookup n == some .cell) then(n,NameKind.cell) else(n,k)).lookup x=some k->
  ∃k',names.lookup x=some k'/\(k=k'\/(k'=.free/\k=.cell))
 |[],_,_,h=>by simp at h
 |(n,k₀)::r,x,k,h=>by
  have ih:=@zy sc r x k;have h':List.lookup x ((if (k₀ == NameKind.free&&sc.kind == .function&&sc.names.lookup n == some .cell)=true then(n,NameKind.cell) else(n,k₀))::(r.map _))=some k:=h;cases hx:x == n with
  |true=>
   simp only[lookup_cons,hx];by_cases hc:(k₀ == NameKind.free&&sc.kind == .function&&sc.names.lookup n == some .cell)=true
   ·rw[if_pos hc] at h';simp only[lookup_cons,hx] at h';cases h';simp only[and_eq_true,beq_iff_eq] at hc;exact⟨k₀,rfl,.inr ⟨hc.1.1,rfl⟩⟩
   ·rw[if_neg hc] at h';simp only[lookup_cons,hx] at h';cases h';exact⟨_,rfl,.inl rfl⟩
  |false=>
   simp only[lookup_cons,hx];by_cases hc:(k₀ == NameKind.free&&sc.kind == .function&&sc.names.lookup n == some .cell)=true
   ·rw[if_pos hc] at h';simp only[lookup_cons,hx] at h';exact ih h'
   ·rw[if_neg hc] at h';simp only[lookup_cons,hx] at h';exact ih h'
structure Nf (N:List Str)(sc scope:Scope)(own:List (Str×Nat)):Prop where
 kind:scope.kind=.function
 uniq:∀y∈scope.names,scope.names.lookup y.1=some y.2
 ix:∀p∈own,N[p.2]? =some p.1
 free:∀y∈scope.names,y.2=.free->sc.names.lookup y.1=some .cell\/sc.names.lookup y.1=some .free
 own:∀y∈scope.names,y.2=.local\/y.2=.cell->y.1∈own.map (·.1)\/y.1∉N
noncomputable def wipe (σ:St):List Nat->St
 |[]=>σ
 |v::vs=>(wipe σ vs).set v none
theorem zA (σ:St):∀vs:List Nat,(wipe σ vs).length=σ.length
 |[]=>rfl
 |v::vs=>by unfold wipe;rw[List.length_set,zA σ vs]
theorem Gi {σ:St}{i:Nat}{x:V}:∀{vs:List Nat},(wipe σ vs)[i]? =some (some x)->σ[i]? =some (some x)/\i∉vs
 |[],h=>⟨h,by simp⟩
 |v::vs,h=>by
  unfold wipe at h;by_cases hi:v=i
  ·subst hi;by_cases hv:v<(wipe σ vs).length
   ·rw[List.getElem?_set_self hv] at h;cases h
   ·rw[getElem?_eq_none (by simpa using hv)] at h;cases h
  ·rw[List.getElem?_set_ne hi] at h;obtain⟨h1,h2⟩:=Gi h;exact⟨h1,by simp only[mem_cons,not_or];exact⟨λe=>hi e.symm,h2⟩⟩
abbrev Cx.blk (X:Cx)(s:Shared)(H:Hp)(scope:Scope)(cenv:Env)(fp:List Addr):Cx:={X with s_0:=s,H_0:=H,env:=cenv,outer:=X.stack,ex:=fp,fn:=λx=>scope.names.lookup x == some .cell,pn:=[],xe:=λz z=>False}
section
variable {X:Cx}{aj:LO0}{σ:St}{H:Hp}{s:Shared}
theorem Yo {scope:Scope}{own:List (Str×Nat)}{fp:List Addr}(I:Inv X aj σ H s)(ok:Nf X.N X.env.scope scope own)(hN:X.N.Nodup)(hfp:∀b∈fp,ux X aj H b/\b<s.heap.objs.size):
  Inv (X.blk s H scope (compEnvC scope (cellsFrom (s.heap.objs.size+1) scope.names (dW X.env.cells scope.names [])) s.heap.objs.size X.env) fp) [] (wipe σ (own.map (·.2))) H {s with heap:=pushCells (s.heap.push {cls:=.type "dict",data:=.dict #[]}) scope.names}:=by
 have hfree:∀y∈scope.names,y.2=.free->∃c,X.env.cells.lookup y.1=some c:=λy hy e=>by
  rcases ok.free y hy e with k|k
  ·exact I.ok.has _ (.inl k)
  ·exact I.ok.has _ (.inr k)
 generalize Ng:compEnvC scope (cellsFrom (s.heap.objs.size+1) scope.names (dW X.env.cells scope.names [])) s.heap.objs.size X.env=cenv;have kp:∀b o,s.heap.get? b=some o->(pushCells (s.heap.push {cls:=.type "dict",data:=.dict #[]}) scope.names).get? b=some o:=λb o e=>pushCells_keeps _ _ _ _ (Heap.get?_push_of_some _ e);have hL:cenv.locals=s.heap.objs.size:=by rw[<-Ng];rfl
 have hcl:cenv.cells=cellsFrom (s.heap.objs.size+1) scope.names (dW X.env.cells scope.names []):=by rw[<-Ng];rfl
 have hsc:cenv.scope=relS scope X.env.scope:=by rw[<-Ng];rfl
 rw[<-Heap.size_push s.heap {cls:=.type "dict",data:=.dict #[]}] at hcl;have cm:∀{y c},(y,c)∈dW X.env.cells scope.names []->X.env.cells.lookup y=some c/\c<s.heap.objs.size:=λ{y c} hm=>by
  rcases rY hm with hm|⟨h1,rfl⟩
  ·cases hm
  ·obtain⟨c,hc⟩:=hfree _ h1 rfl;rw[hc];obtain⟨w,z⟩:=I.cell _ _ hc;exact⟨rfl,z.lt⟩
 have mem:∀{y c},cenv.cells.lookup y=some c->(X.env.cells.lookup y=some c/\c<s.heap.objs.size)\/(s.heap.objs.size+1<=c/\CellAt (pushCells (s.heap.push {cls:=.type "dict",data:=.dict #[]}) scope.names) c none):=λ{y c} e=>by
  rw[hcl] at e;rcases sS (PySem.mem_of_lookup e) with hm|⟨_,h2,h3⟩
  ·exact .inl (cm hm)
  ·rw[Heap.size_push] at h2;exact .inr ⟨h2,h3⟩
 have look:∀{y},scope.names.lookup y=some .free->∃c,cenv.cells.lookup y=some c/\X.env.cells.lookup y=some c:=λ{y} hl=>by
  have hy:(y,NameKind.free)∈scope.names:=PySem.mem_of_lookup hl;obtain⟨c',e'⟩:=mem_lookup (yg (names:=scope.names) (n:=(s.heap.push {cls:=.type "dict",data:=.dict #[]}).objs.size) (zx (cells:=X.env.cells) (acc:=[]) hy));rw[<-hcl] at e';refine⟨c',e',?_⟩;rw[hcl] at e';rcases sS (PySem.mem_of_lookup e') with hm|⟨h1,_,_⟩
  ·exact(cm hm).1
  ·have:=ok.uniq _ h1;rw[hl] at this;cases this
 have okB:(X.blk s H scope cenv fp).Ok:=by
  refine⟨I.ok.mod,by show cenv.scope.kind=_;rw[hsc];exact ok.kind,by show cenv.globals=_;rw[<-Ng];exact I.ok.glob,by show cenv.builtins=_;rw[<-Ng];exact I.ok.blt,by show s.heap.objs.size<=cenv.locals;rw[hL];exact Nat.le_refl _,
   λy z c e1 e2=>?_,λy hy=>?_,λy c z e=>?_,I.ok.hd,I.ok.frames,.inl rfl,λb hb=>⟨?_,λy c e z=>?_⟩,I.bs,le_trans I.ok.FN I.sz,λb o e hb=>?_,λb hb z=>?_,I.stack,I.YS⟩
  ·have e1:cenv.cells.lookup y=some c:=e1;have e2:cenv.cells.lookup z=some c:=e2;rw[hcl] at e1 e2;refine Gh (λp hp=>?_) (λy z c a b=>I.ok.inj y z c (cm a).1 (cm b).1) (PySem.mem_of_lookup e1) (PySem.mem_of_lookup e2);rw[Heap.size_push];exact Nat.lt_succ_of_lt (cm (y:=p.1) (c:=p.2) hp).2
  ·show∃c,cenv.cells.lookup y=some c;have key:∀k,cenv.kindOf y=some k->(k=.cell\/k=.free)->∃c,cenv.cells.lookup y=some c:=λk O hk'=>by
    unfold Env.kindOf at O;rw[hsc] at O;obtain⟨k',e,r⟩:=zy O;have:k'=.cell\/k'=.free:=by
     rcases r with rfl|⟨rfl,_⟩
     ·exact hk'
     ·exact .inr rfl
    rcases this with rfl|rfl
    ·obtain⟨c,hm⟩:=Gg (n:=(s.heap.push {cls:=.type "dict",data:=.dict #[]}).objs.size) (acc:=dW X.env.cells scope.names []) (PySem.mem_of_lookup e);obtain⟨c',e'⟩:=mem_lookup hm;exact⟨c',by rw[hcl];exact e'⟩
    ·obtain⟨c,h1,_⟩:=look e;exact⟨c,h1⟩
   rcases hy with hy|hy
   ·exact key _ hy (.inl rfl)
   ·exact key _ hy (.inr rfl)
  ·have z:(scope.names.lookup y == some NameKind.cell)=true:=z;have z:scope.names.lookup y=some .cell:=by simpa using z
   have e:cenv.cells.lookup y=some c:=e;rw[hcl] at e;rcases sS (PySem.mem_of_lookup e) with hm|⟨_,h2,_⟩
   ·rcases rY hm with hm|⟨h1,_⟩
    ·cases hm
    ·have q:=ok.uniq _ h1;rw[z] at q;cases q
   ·rw[Heap.size_push] at h2;exact Nat.le_of_succ_le h2
  ·show b≠cenv.locals;rw[hL];exact ne_of_lt (hfp b hb).2
  ·have e:cenv.cells.lookup y=some c:=e;rcases mem e with⟨h1,_⟩|⟨h1,_⟩
   ·exact(hfp b hb).1.2.2.2.2.1 y c h1 z
   ·have h2:s.heap.objs.size+1<=b:=by rw[<-z];exact h1
    exact absurd (lt_of_lt_of_le (hfp b hb).2 (Nat.le_of_succ_le h2)) (lt_irrefl _)
  ·rcases(hfp b hb).1.2.2.2.1 with z|z
   ·exact I.ok.U8 b o e z
   ·exact absurd (lt_of_lt_of_le (Heap.lt_size e) (le_trans I.ok.FN z)) (lt_irrefl _)
  ·rcases mem_cons.mp (I.Vb b z) with z|z
   ·exact(hfp b hb).1.2.1 z
   ·exact(hfp b hb).1.2.2.1 z
 refine⟨okB,rfl,I.bare,Un.kept kp,⟨λx=>none,?_,λi y av e1 e2 e3=>?_⟩,λy c e=>?_,?_,λy c e=>?_,λp hp=>?_,I.hok.kept kp,by rw[zA];exact I.len⟩
 ·show Heap.Ns _ cenv.locals _;rw[hL];exact Heap.Ns.keeps (Heap.Ns.new ..) λb o e=>pushCells_keeps _ _ _ _ e
 ·obtain⟨e2,hne⟩:=Gi e2;have hfr:scope.names.lookup y=some .free/\(cenv.kindOf y=some .cell\/cenv.kindOf y=some .free):=by
   have key:∀k,cenv.scope.names.lookup y=some k->k=.local\/k=.cell\/k=.free->scope.names.lookup y=some .free/\(cenv.kindOf y=some .cell\/cenv.kindOf y=some .free):=λk O hk'=>by
    have hk0:=O;rw[hsc] at O;obtain⟨k',e,r⟩:=zy O;have no:¬(k'=.local\/k'=.cell):=λhh=>by
     rcases ok.own _ (PySem.mem_of_lookup e) hh with e'|e'
     ·obtain⟨p,hp,hpy⟩:=mem_map.mp e';have e3:=ok.ix p hp;have:p.1=y:=hpy;rw[this] at e3;exact hne (mem_map.mpr ⟨p,hp,K4 hN e3 e1⟩)
     ·exact e' (mem_of_getElem? e1)
    rcases r with rfl|⟨rfl,rfl⟩
    ·rcases hk' with rfl|rfl|rfl
     ·exact absurd (.inl rfl) no
     ·exact absurd (.inr rfl) no
     ·exact⟨e,.inr hk0⟩
    ·exact⟨e,.inl hk0⟩
   have e3:YQ cenv.scope y:=e3;rcases e3 with e3|e3|e3
   ·exact key _ e3 (.inl rfl)
   ·exact key _ e3 (.inr (.inl rfl))
   ·exact key _ e3 (.inr (.inr rfl))
  obtain⟨m,hn,hl⟩:=I.loc;have hvis:YQ X.env.scope y:=(ok.free _ (PySem.mem_of_lookup hfr.1) rfl).elim (λk=>.inr (.inl k)) (λk=>.inr (.inr k));obtain⟨w,r,q⟩:=hl i y av e1 e2 hvis;refine⟨w,r,.inr ⟨hfr.2,?_⟩⟩;obtain⟨c,h1,h2⟩:=look hfr.1;rcases q with⟨k,_⟩|⟨_,c',e',z⟩
  ·have k:X.env.scope.names.lookup y=some .local:=k;rcases ok.free _ (PySem.mem_of_lookup hfr.1) rfl with k'|k'<;>rw[show X.env.scope.names.lookup y=_ from k'] at k<;>cases k
  ·rw[h2] at e';cases e';exact⟨c,h1,z.keeps kp⟩
 ·have e:cenv.cells.lookup y=some c:=e;rcases mem e with⟨h1,_⟩|⟨_,z⟩
  ·obtain⟨w,z⟩:=I.cell y c h1;exact⟨w,z.keeps kp⟩
  ·exact⟨_,z⟩
 ·show H cenv.locals=none;rw[hL];exact I.hok.fresh (Nat.le_refl _)
 ·have e:cenv.cells.lookup y=some c:=e;rcases mem e with⟨h1,_⟩|⟨h1,_⟩
  ·exact I.pJ y c h1
  ·exact I.hok.fresh (Nat.le_of_succ_le h1)
 ·exact absurd (show p∈([]:LO0)++[] from hp) (by simp)
theorem app_ok {E:VS0}{D:Addr}{xs:List V}{y:V}{v:Value}{Q:VS0}(I:Inv X aj σ H s)(hD:H D=some (.aB xs))(hz:xs.length<sizeLine)(r:RelV y v)
  (h:∀s',Inv X aj σ (aN H D (.aB (xs++[y]))) s'->Q .none s'):wpAny (model X.prog X.w) X.A (call (.builtin "list.append") [.ref D,v]) Q E s:=by
 obtain⟨hz',its,n,ri,e⟩:=I.hok D _ hD;have hl:=ri.length;refine append_at (hsz:=by rw[size_toArray];lia) e λh' sb ho'=>?_;refine h {s with heap:=h'} (I.write (t':=s.toks) (by rw[hD];trivial) (.inl rfl) (λb u hb q=>(sb.2 b hb).trans q) ⟨_,ho'⟩ ⟨by rw[length_append];exact hz,its++[v],n+1,ri.append (.cons r .nil),?_⟩);rw[ho'];simp
def PTs (X:Cx)(ifs:List Expr)(t:TT):Prop:=
 ∀(aj:LO0) (s:Shared) (σ:St) (H:Hp) (Q:Bool->Hp->Prop),Inv X aj σ H s->t σ H Q->
  wpAny (model X.prog X.w) X.A (forIn ifs true λc r=>if r=true then do let ok<-isTrue c X.env (eval c X.env);pure (ForInStep.yield ok) else pure (ForInStep.yield r)) (TP X aj σ Q) X.xe s
def Vs:TT:=λz H Q=>Q true H
theorem gj:PTs X [] Vs:=λz z z H z I h=>wpAny_tests_nil ⟨H,I,h⟩
theorem pts_one {c:Expr}{t:TT}(h:PT X c t):PTs X [c] t:=λaj s σ H Q I hw=>wpAny_tests_one (h aj s σ H Q I hw)
end
theorem P0 {α:Type}{t:Sem α}{Q Q':α->Shared->Prop}{M:Model}{A:Around}{E:VS0}{s:Shared}(h:wpAny M A t Q (λy y=>False) s)(hQ:∀a s,Q a s->Q' a s):wpAny M A t Q' E s:=wpAny_mono h hQ λy y z=>False.elim z
theorem Vt {prog:Program}{w:World}{A:Around}{R:Result->Shared->Prop}{s:Shared}{elt target iter:Expr}{ifs:List Expr}{scope:Scope}{pos:Pos}{it acc:Value}{env:Env}(I:Nat->Shared->Prop)
  (turn:∀n s,I n s->wpAny (model prog w) A (pyNext it) (λr s₁=>match r with
   |none=>R (.ok .next) s₁
   |some v=>wpAny (model prog w) A (letOwnedTupleGo target it v) (λ_ s₁'=>wpAny (model prog w) A (assign target env v) (λ_ s₂=>
     wpAny (model prog w) A (forIn ifs true λc r=>if r=true then do let ok<-isTrue c env (eval c env);pure (ForInStep.yield ok) else pure (ForInStep.yield r)) (λok s₃=>
      if ok=true then wpAny (model prog w) A (eval elt env) (λx s₄=> wpAny (model prog w) A (call (.builtin "list.append") [acc,x]) (λ_ s₅=>∃m,m<n/\I m s₅) (notedBy (model prog w) A env λe s'=>R (.error e) s') s₄) (notedBy (model prog w) A env λe s'=>R (.error e) s') s₃
      else∃m,m<n/\I m s₃) (notedBy (model prog w) A env λe s'=>R (.error e) s') s₂) (notedBy (model prog w) A env λe s'=>R (.error e) s') s₁') (notedBy (model prog w) A env λe s'=>R (.error e) s') s₁) (notedBy (model prog w) A env λe s'=>R (.error e) s') s)
  (n:Nat) (h:I n s):
  codeAny (model prog w) A (.compLoop (.ListComp elt [⟨target,iter,ifs,0⟩] scope pos) 0 it acc env) R s:=by
 refine codeAny_loop rfl I (λn s hI=>?_) n h;show wpAny _ A ((compTurn (.ListComp elt [⟨target,iter,ifs,0⟩] scope pos) 0 it acc env).onRaise (λx=>do noteFrame x env;theTreesLotGoes x)) _ _ s
 refine wpAny_noted ?_;rw[compTurn_list];refine wpAny_bind (wpAny_standAt (wpAny_bind (wpAny_mono (turn n s hI) (λr s₁ h₁=>?_) λz z h'=>h')));cases r with
 |none=>exact wpAny_pure h₁
 |some v=>
  refine wpAny_bind (wpAny_mono h₁ (λ_ s₁' h₁'=>?_) λz z h'=>h');refine wpAny_bind (wpAny_mono h₁' (λ_ s₂ h₂=>wpAny_bind (wpAny_mono h₂ (λok s₃ h₃=>?_) λz z h'=>h')) λz z h'=>h');cases ok with
  |false=>exact wpAny_pure ⟨rfl,h₃⟩
  |true=>
   exact wpAny_bind (wpAny_bind (wpAny_mono h₃ (λx s₄ h₄=>wpAny_bind (wpAny_mono h₄ (λ_ s₅ h₅=>wpAny_pure (wpAny_pure ⟨rfl,h₅⟩)) λz z h'=>h')) λz z h'=>h'))
section
variable {X:Cx}
def tLc (wi:TI)(g:TG)(tt:TT)(te:TE)(vs:List Nat):TE:=λσ H Q=>wi σ H λJ H1=>∀D,H1 D=none->∃W:Nat->Nat->Hp->Prop,(∃m,W 0 m (aN H1 D (.aB [])))/\∀i m H,W i m H->
 (J.stop i H/\Q (.ref D) H)\/(J.go i H/\∃Nx:Hp->Prop,(∀Z,Nx Z->∃m',m'<m/\W (i+1) m' Z)/\∀x Z,J.zX i H x Z->g x (wipe σ vs) Z λσ2 H2=>wipe σ2 vs=wipe σ vs/\tt σ2 H2 λb H3=> if b=true then te σ2 H3 λy H4=>∃acc,H4 D=some (.aB acc)/\acc.length<sizeLine/\Nx (aN H4 D (.aB (acc++[y]))) else Nx H3)
theorem Za {aj:LO0}{s:Shared}{σ:St}{H:Hp}{Q:VK}{elt tg iter:Expr}{ifs:List Expr}{scope:Scope}{own:List (Str×Nat)}{pos pos':Pos}{wi:TI}{g:TG}{tt:TT}{te:TE}{use:Option (Value->Sem Unit)}{Qf:VS0}
  (hc:X.calm=true) (hN:X.N.Nodup) (I:Inv X aj σ H s) (hi:PI X tg iter wi) (ok:Nf X.N X.env.scope scope own)
  (hg:∀(s:Shared) (H:Hp) (C:Addr) (cl:List (Str×Addr)) (fp:List Addr),PG (X.blk s H scope (compEnvC scope cl C X.env) fp) tg g) (ht:∀(s:Shared) (H:Hp) (C:Addr) (cl:List (Str×Addr)) (fp:List Addr),PTs (X.blk s H scope (compEnvC scope cl C X.env) fp) ifs tt)
  (he:∀(s:Shared) (H:Hp) (C:Addr) (cl:List (Str×Addr)) (fp:List Addr),PE (X.blk s H scope (compEnvC scope cl C X.env) fp) elt te) (hs:∀x,foldedSetIterable iter X.env x=pure x)
  (h:tLc wi g tt te (own.map (·.2)) σ H Q)
  (hRR:∀D C s' m Z,Inv X aj σ Z s'->Q (.ref D) Z->s'.heap.Ns C m->ux X aj Z C->compPost (model X.prog X.w) X.A X.xe use Qf (.ref D) C (.ok .next) s'):
  wpAny (model X.prog X.w) X.A (comprehension (.ListComp elt [⟨tg,iter,ifs,0⟩] scope pos) scope X.env pos' (newList []) false (eval iter X.env) use) Qf X.xe s:=by
 have hfree:∀y∈scope.names,y.2=.free->∃c,X.env.cells.lookup y.1=some c:=λy hy e=>by
  rcases ok.free y hy e with k|k
  ·exact I.ok.has _ (.inl k)
  ·exact I.ok.has _ (.inr k)
 refine wpAny_comprehension_free (use:=use) rfl hs (closure_ok hfree) ok.kind (λy hy e=>by rw[ok.uniq y hy,e])
  (bW (hi aj s σ H _ I h) λxv s1 hx=>bW hx λitv s2 h2=>?_)
 obtain⟨it,fp,tn,J,H2,e,I2,T,st2,f2,q⟩:=h2;subst e;refine wpAny_newObj_type (Yn ?_) (by show 0<=sizeLine;decide);generalize hD:s2.heap.objs.size=D;have hDn:H2 D=none:=I2.hok.fresh (le_of_eq hD);obtain⟨W,⟨m0,w0⟩,turn⟩:=q D hDn;generalize hs3:({s2 with heap:=s2.heap.push {cls:=.type "list",data:=.seq ([]:List Value).toArray}}:Shared)=s3;have I3:Inv X aj σ (aN H2 D (.aB [])) s3:=by
  rw[<-hs3];refine I2.laid (t':=s2.toks) (λb o e=>Heap.get?_push_of_some _ e) (le_of_eq hD) ⟨zero_le _,[],0,.nil,?_⟩;rw[<-hD];exact Heap.get?_push_size _ rfl
 have h3:s3.heap=s2.heap.push {cls:=.type "list",data:=.seq ([]:List Value).toArray}:=by rw[<-hs3]
 have sz:∀b∈fp,b<s2.heap.objs.size:=λb hb=>by
  obtain⟨o,e,_⟩:=T.obj _ _ st2 b hb;exact Heap.lt_size e
 have f3:∀b∈fp,ux X aj (aN H2 D (.aB [])) b/\b<s3.heap.objs.size:=λb hb=>by
  have hlt:=sz b hb;refine⟨⟨?_,(f2 b hb).2⟩,by rw[h3,Heap.size_push];exact Nat.lt_succ_of_lt hlt⟩;rw[aO (by rw[<-hD];exact ne_of_lt hlt)];exact(f2 b hb).1
 have st3:tn 0 s3.heap:=T.keep _ _ _ st2 λb t o e=>by rw[h3];exact Heap.get?_push_of_some _ e
 have I4:=Yo I3 ok hN f3;have pg:=hg s3 (aN H2 D (.aB [])) s3.heap.objs.size (cellsFrom (s3.heap.objs.size+1) scope.names (dW X.env.cells scope.names [])) fp;have pt:=ht s3 (aN H2 D (.aB [])) s3.heap.objs.size (cellsFrom (s3.heap.objs.size+1) scope.names (dW X.env.cells scope.names [])) fp;have pe:=he s3 (aN H2 D (.aB [])) s3.heap.objs.size (cellsFrom (s3.heap.objs.size+1) scope.names (dW X.env.cells scope.names [])) fp;show codeAny _ _ (.compStart (.ListComp elt [⟨tg,iter,ifs,0⟩] scope pos) 0 (.ref it) (.ref D) (compEnvC scope (cellsFrom (s3.heap.objs.size+1) scope.names (dW X.env.cells scope.names [])) s3.heap.objs.size X.env)) (compPost (model X.prog X.w) X.A X.xe use Qf (.ref D) s3.heap.objs.size) {s3 with heap:=pushCells (s3.heap.push {cls:=.type "dict",data:=.dict #[]}) scope.names}
 have nfp:∀b∈fp,(aN H2 D (.aB [])) b=none:=λb hb=>(f3 b hb).1.1;generalize hce:compEnvC scope (cellsFrom (s3.heap.objs.size+1) scope.names (dW X.env.cells scope.names [])) s3.heap.objs.size X.env=ce at I4 pg pt pe⊢;have cL:ce.locals=s3.heap.objs.size:=by subst hce;rfl
 generalize hH3:aN H2 D (.aB [])=H3 at I3 I4 pg pt pe w0 nfp f3;generalize hs4:({s3 with heap:=pushCells (s3.heap.push {cls:=.type "dict",data:=.dict #[]}) scope.names}:Shared)=s4 at I4⊢
 have st4:tn 0 s4.heap:=T.keep _ _ _ st3 λb t o e=>by rw[<-hs4];exact pushCells_keeps _ _ _ _ (Heap.get?_push_of_some _ e)
 have stat:∀{σ':St}{Z:Hp}{s':Shared},Inv (X.blk s3 H3 scope ce fp) [] σ' Z s'->(∀b∈fp,Z b=none)->∀b∈fp,ux (X.blk s3 H3 scope ce fp) [] Z b:=λ{σ' Z s'} I' hn b hb=>
  ⟨hn b hb,(I'.ok.exf b hb).1,I'.ok.U9 b hb,.inl hb,λx c e=>(I'.ok.exf b hb).2 x c e,λp hp=>absurd (show p∈([]:LO0)++[] from hp) (by simp)⟩
 have loop:codeAny (model X.prog X.w) X.A (.compLoop (.ListComp elt [⟨tg,iter,ifs,0⟩] scope pos) 0 (.ref it) (.ref D) ce) (compPost (model X.prog X.w) X.A X.xe use Qf (.ref D) s3.heap.objs.size) s4:=by
  refine Vt (λn s'=>∃i Z,Inv (X.blk s3 H3 scope ce fp) [] (wipe σ (own.map (·.2))) Z s'/\tn i s'.heap/\(∀b∈fp,Z b=none)/\W i n Z) ?_ m0 ⟨0,H3,I4,st4,nfp,w0⟩;rintro n s5 ⟨i,H5,I5,st5,n5,w5⟩;rcases turn i n H5 w5 with⟨stop,qq⟩|⟨go,Nx,hNx,step⟩
  ·have td:=T.done (X.blk s3 H3 scope ce fp) rfl rfl rfl hc i [] s5 _ H5 (λt t=>False) I5 (stat I5 n5) st5 stop;refine P0 td λr s6 ⟨hr,I6⟩=>?_;subst hr;have I7:Inv X aj σ H5 s6:=I3.call' (ch:=fp) I6.os I6.aq I6.hok I6.bare λb hb=>⟨(f3 b hb).1.2.2.2.1,(f3 b hb).1.2.1,(f3 b hb).1.2.2.2.2.1,(f3 b hb).1.2.2.2.2.2⟩;have nC:H5 s3.heap.objs.size=none:=by
    have z:H5 ce.locals=none:=I6.free;rw[cL] at z;exact z
   obtain⟨m,hn,_⟩:=I6.loc;have hn:s6.heap.Ns ce.locals m:=hn;rw[cL] at hn;exact hRR D s3.heap.objs.size s6 m H5 I7 qq hn (I3.Pz (Nat.le_refl _) nC)
  ·have ti:=T.item (X.blk s3 H3 scope ce fp) rfl rfl rfl hc i [] s5 _ H5 (λt t=>False) I5 (stat I5 n5) st5 go;refine P0 ti λr s6 ⟨u,hr,h6⟩=>?_;subst hr;refine P0 h6 λ_ s7 ⟨x,H7,I7,r7,y7,st7,n7⟩=>?_;have I7':=I7.pinned (stat I7 n7) (T.obj _ _ st7);refine P0 (pg _ s7 _ H7 x u _ I7' r7 (step x H7 y7)) λ_ s8 ⟨σ8,H8,I8,hw8,q8⟩=>?_;refine P0 (pt _ s8 σ8 H8 _ I8 q8) λb s9 ⟨H9,I9,q9⟩=>?_;have fin:∀{s':Shared}{Z:Hp},Inv (X.blk s3 H3 scope ce fp) ([]++FT fp s7.heap) σ8 Z s'->Nx Z->∃m,m<n/\∃i Z,Inv (X.blk s3 H3 scope ce fp) [] (wipe σ (own.map (·.2))) Z s'/\tn i s'.heap/\(∀b∈fp,Z b=none)/\W i m Z:=λ{s' Z} I' nx=>by
    obtain⟨m',hm,w'⟩:=hNx Z nx;have pin':∀b∈fp,∀o,s7.heap.get? b=some o->s'.heap.get? b=some o/\Z b=none:=λb hb o e=>
     let z:=I'.pin (b,o) (mem_append_right _ (mem_append_right _ (Ca hb e)))
     ⟨z.1,z.2.1⟩
    have hl:(wipe σ (own.map (·.2))).length=σ8.length:=by rw[<-hw8,zA]
    refine⟨m',hm,i+1,Z,(I'.Cd (aj:=[])).weak hl (λj v e=>?_),T.keep _ _ _ st7 λb hb o e=>(pin' b hb o e).1,λb hb=>?_,w'⟩
    ·rw[<-hw8] at e;exact(Gi e).1
    ·obtain⟨o,e,_⟩:=T.obj _ _ st7 b hb;exact(pin' b hb o e).2
   cases b with
   |false=>
    simp only[false_eq_true,if_false] at q9⊢;exact fin I9 q9
   |true=>
    simp only[if_true] at q9⊢;refine P0 (pe _ s9 σ8 H9 _ I9 q9) λz Rn ⟨yv,H10,I10,r10,acc,hD10,hz10,nx⟩=>?_;exact app_ok (X:=X.blk s3 H3 scope ce fp) I10 hD10 hz10 r10 λRo I11=>fin I11 nx
 exact codeAny_compStart_list loop (T.self X.A 0 _ _ _ st4 loop)
theorem lW {elt tg iter:Expr}{ifs:List Expr}{scope:Scope}{own:List (Str×Nat)}{pos:Pos}{wi:TI}{g:TG}{tt:TT}{te:TE}(hc:X.calm=true)(hN:X.N.Nodup)(hi:PI X tg iter wi)(ok:Nf X.N X.env.scope scope own)
  (hg:∀(s:Shared) (H:Hp) (C:Addr) (cl:List (Str×Addr)) (fp:List Addr),PG (X.blk s H scope (compEnvC scope cl C X.env) fp) tg g) (ht:∀(s:Shared) (H:Hp) (C:Addr) (cl:List (Str×Addr)) (fp:List Addr),PTs (X.blk s H scope (compEnvC scope cl C X.env) fp) ifs tt)
  (he:∀(s:Shared) (H:Hp) (C:Addr) (cl:List (Str×Addr)) (fp:List Addr),PE (X.blk s H scope (compEnvC scope cl C X.env) fp) elt te) (hs:∀x,foldedSetIterable iter X.env x=pure x:=by intro _;rfl):
  PE X (.ListComp elt [⟨tg,iter,ifs,0⟩] scope pos) (tLc wi g tt te (own.map (·.2))):=by
 intro aj s σ H Q I h;rw[eval_ListComp];refine Za hc hN I hi ok hg ht he hs h λD C s' m Z I' q hn f=>⟨m,hn,λh'' sb=>?_⟩;obtain⟨f0,f1,f2,f3,f4,f5⟩:=f;exact⟨.ref D,Z,I'.turned (t':=s'.toks) (λb o hb e=>(sb.2 b hb).trans e) f0 f1 f3 f4 f5,rfl,q⟩
theorem Ci {i:Nat}{y:Str}{py:Pos}{elt tg iter:Expr}{ifs:List Expr}{scope:Scope}{own:List (Str×Nat)}{pos spos:Pos}{wi:TI}{g:TG}{tt:TT}{te:TE}(hc:X.calm=true)(hN:X.N.Nodup)(hy:X.N[i]? =some y)(hyl:X.env.scope.names.lookup y=some .local)
  (hsw:swapsWith (.ListComp elt [⟨tg,iter,ifs,0⟩] scope pos) (some (.Name y py)) spos.line X.env=pure true) (hi:PI X tg iter wi) (ok:Nf X.N X.env.scope scope own)
  (hg:∀(s:Shared) (H:Hp) (C:Addr) (cl:List (Str×Addr)) (fp:List Addr),PG (X.blk s H scope (compEnvC scope cl C X.env) fp) tg g) (ht:∀(s:Shared) (H:Hp) (C:Addr) (cl:List (Str×Addr)) (fp:List Addr),PTs (X.blk s H scope (compEnvC scope cl C X.env) fp) ifs tt)
  (he:∀(s:Shared) (H:Hp) (C:Addr) (cl:List (Str×Addr)) (fp:List Addr),PE (X.blk s H scope (compEnvC scope cl C X.env) fp) elt te) (hs:∀x,foldedSetIterable iter X.env x=pure x:=by intro _;rfl):
  PS X (.Assign [.Name y py] (.ListComp elt [⟨tg,iter,ifs,0⟩] scope pos) spos) (tAsg (tLc wi g tt te (own.map (·.2))) (pN i)):=by
 intro aj s σ H D I h;rw[exec_Assign_Name_used _ _ _ _ hsw];refine wpAny_bind (wpAny_standAt (wpAny_bind ?_));show wpAny _ X.A (do let _<-comprehension (.ListComp elt [⟨tg,iter,ifs,0⟩] scope pos) scope X.env (firstIterPos [⟨tg,iter,ifs,0⟩] pos) (newList []) false (eval iter X.env) (some (assign (.Name y py) X.env))) _ _ s
 have h:tLc wi g tt te (own.map (·.2)) σ H (λx H1=>pN i x σ H1 D.nx):=h;refine wpAny_bind (bW (Za (Qf:=λw s'=>SP X aj D .next s') hc hN I hi ok hg ht he hs h λL C s' m Z I' q hn f=>?_) λw s' hq=>wpAny_pure (wpAny_pure hq))
 show wpAny _ _ (assign (.Name y py) X.env (.ref L)) _ _ _;refine wpAny_assign_Name (Rf (v:=V.ref L) I' hN hy (.inl hyl) rfl (λs2 I2 ⟨a,sb,ha⟩=>?_) (.inr hyl));obtain⟨f0,f1,f2,f3,f4,f5⟩:=f;have haC:C≠a:=by
  rcases ha with z|z
  ·rw[z];exact f1
  ·exact λe=>f4 y a z e.symm
 refine⟨m,hn.sameBut sb haC,λh3 sb3=>?_⟩;exact⟨_,Z,I2.turned (t':=s2.toks) (λb o hb e=>(sb3.2 b hb).trans e) f0 f1 f3 f4 f5,q⟩
theorem Ji {elt:Expr}{gs:List Comprehension}{scope:Scope}{pos py:Pos}{y:Str}{l:Nat}{env:Env}(O:env.scope.kind=.function)(hy:env.scope.names.lookup y=some .local)(hl:(py.line == pos.line)=true)
  (ha:(scope.names.any λ(n,k)=>n == y&&(k == .local||k == .cell))=false):swapsWith (.ListComp elt gs scope pos) (some (.Name y py)) l env=pure true:=by
 have ky:env.kindOf y=some .local:=hy;have hb:env.blockKind=.function:=by unfold Env.blockKind;rw[O];rfl
 unfold swapsWith;simp only[hb,ky,ha,show(Expr.ListComp elt gs scope pos).pos=pos from rfl,show(Expr.Name y py).pos=py from rfl,hl];rfl
end
theorem K8 {lo:Int}{n:Nat}{g:TG}{tt:TT}{te:TE}{vs:List Nat}{σ:St}{H1:Hp}{D:Addr}{Qd:Hp->Prop}(Pv:Nat->Hp->Prop)(h0:Pv 0 (aN H1 D (.aB [])))
  (hs:∀i H,i<n->Pv i H->g (.int (lo+i)) (wipe σ vs) H λσ2 H2=>wipe σ2 vs=wipe σ vs/\tt σ2 H2 λb H3=> if b=true then te σ2 H3 λy H4=>∃acc,H4 D=some (.aB acc)/\acc.length<sizeLine/\Pv (i+1) (aN H4 D (.aB (acc++[y]))) else Pv (i+1) H3) (hd:∀H,Pv n H->Qd H):
  ∃W:Nat->Nat->Hp->Prop,(∃m,W 0 m (aN H1 D (.aB [])))/\∀i m H,W i m H->
   ((DY lo n).stop i H/\Qd H)\/((DY lo n).go i H/\∃Nx:Hp->Prop,(∀Z,Nx Z->∃m',m'<m/\W (i+1) m' Z)/\∀x Z,(DY lo n).zX i H x Z->g x (wipe σ vs) Z λσ2 H2=>wipe σ2 vs=wipe σ vs/\tt σ2 H2 λb H3=> if b=true then te σ2 H3 λy H4=>∃acc,H4 D=some (.aB acc)/\acc.length<sizeLine/\Nx (aN H4 D (.aB (acc++[y]))) else Nx H3):=by
 refine⟨λi m H=>m=n-i/\i<=n/\Pv i H,⟨n,by simp,zero_le _,h0⟩,?_⟩;rintro i m H ⟨rfl,hi,p⟩;by_cases hlt:i<n
 ·refine .inr ⟨hlt,Pv (i+1),λZ p'=>⟨n-(i+1),by lia,rfl,hlt,p'⟩,λx Z y=>?_⟩;obtain⟨e,y⟩:=y;subst e y;exact hs i _ hlt p
 ·have e:i=n:=by lia
  subst e;exact .inl ⟨Nat.le_refl _,hd H p⟩
theorem lc_list {K:Frag}{a:Addr}{xs:List V}{g:TG}{tt:TT}{te:TE}{vs:List Nat}{σ:St}{H1:Hp}{D:Addr}{Qd:Hp->Prop}(Pv:Nat->Hp->Prop)(h0:Pv 0 (aN H1 D (.aB [])))(hl:∀i H,i<=xs.length->Pv i H->aF K H a xs)
  (hs:∀i x H,xs[i]? =some x->Pv i H->g x (wipe σ vs) H λσ2 H2=>wipe σ2 vs=wipe σ vs/\tt σ2 H2 λb H3=> if b=true then te σ2 H3 λy H4=>∃acc,H4 D=some (.aB acc)/\acc.length<sizeLine/\Pv (i+1) (aN H4 D (.aB (acc++[y]))) else Pv (i+1) H3) (hd:∀H,Pv xs.length H->Qd H):
  ∃W:Nat->Nat->Hp->Prop,(∃m,W 0 m (aN H1 D (.aB [])))/\∀i m H,W i m H->
   ((MJ K a).stop i H/\Qd H)\/((MJ K a).go i H/\∃Nx:Hp->Prop,(∀Z,Nx Z->∃m',m'<m/\W (i+1) m' Z)/\∀x Z,(MJ K a).zX i H x Z->g x (wipe σ vs) Z λσ2 H2=>wipe σ2 vs=wipe σ vs/\tt σ2 H2 λb H3=> if b=true then te σ2 H3 λy H4=>∃acc,H4 D=some (.aB acc)/\acc.length<sizeLine/\Nx (aN H4 D (.aB (acc++[y]))) else Nx H3):=by
 refine⟨λi m H=>m=xs.length-i/\i<=xs.length/\Pv i H,⟨xs.length,by simp,zero_le _,h0⟩,?_⟩;rintro i m H ⟨rfl,hi,p⟩;have q:=hl i H hi p;by_cases hlt:i<xs.length
 ·refine .inr ⟨⟨xs,xs[i],q,by simp[hlt]⟩,Pv (i+1),λZ p'=>⟨xs.length-(i+1),by lia,rfl,hlt,p'⟩,λx Z y=>?_⟩;obtain⟨e,y⟩:=y;subst e;exact hs i x _ (y xs q) p
 ·have e:i=xs.length:=by lia
  subst e;exact .inl ⟨⟨xs,q,Nat.le_refl _⟩,hd H p⟩
noncomputable def blkC (N:List Str)(sc scope:Scope)(own:List (Str×Nat)):Bool:=
 (match scope.kind with| .function=>true|_=>false)&&(scope.names.all λy=>decide (scope.names.lookup y.1=some y.2))&&(own.all λp=>decide (N[p.2]? =some p.1))&&
  (scope.names.all λy=>match y.2 with
   | .free=>(match sc.names.lookup y.1 with|some .cell=>true|some .free=>true|_=>false)
   | .local=>decide (y.1∈own.map (·.1))||decide (y.1∉N)
   | .cell=>decide (y.1∈own.map (·.1))||decide (y.1∉N)
   |_=>true)
theorem eG {N:List Str}{sc scope:Scope}{own:List (Str×Nat)}(h:blkC N sc scope own=true):Nf N sc scope own:=by
 unfold blkC at h;simp only[and_eq_true,all_eq_true,decide_eq_true_eq] at h;obtain⟨⟨⟨h1,h2⟩,h3⟩,h4⟩:=h;refine⟨?_,h2,h3,λy hy e=>?_,λy hy e=>?_⟩
 ·split at h1
  ·assumption
  ·cases h1
 ·have q:=h4 y hy;simp only[e] at q;split at q<;>first|exact .inl (by assumption)|exact .inr (by assumption)|cases q
 ·have q:=h4 y hy;rcases e with e|e<;>(simp only[e,Bool.or_eq_true,decide_eq_true_eq] at q;exact q)
end L2
namespace L2
section
variable {prog:Program}{w:World}{A:Around}{R:Result->Shared->Prop}{s:Shared}{elt t0 i0 t1 i1:Expr}{ifs0 ifs1:List Expr}{scope:Scope}{pos:Pos}{it acc:Value}{env:Env}
end
section
variable {X:Cx}
end
end L2
namespace L2
section
variable {κ:Type}[DecidableEq κ]
noncomputable def qZ (kvs:List (κ×V))(k:κ):Option V:=(kvs.find? λkv=>decide (kv.1=k)).map (·.2)
noncomputable def putK (kvs:List (κ×V))(k:κ)(v:V):List (κ×V):=
 if (kvs.any λkv=>decide (kv.1=k))=true then kvs.map (λkv=>if kv.1=k then(kv.1,v) else kv) else kvs++[(k,v)]
theorem valV_pos {p:κ×V}{r:List (κ×V)}{k:κ}(e:p.1=k):qZ (p::r) k=some p.2:=by simp[qZ,find?_cons,e]
theorem valV_neg {p:κ×V}{r:List (κ×V)}{k:κ}(e:¬p.1=k):qZ (p::r) k=qZ r k:=by simp[qZ,find?_cons,e]
theorem mK.Rp {o:Option V}{u:Option Value}(r:mK o u):o.isSome=u.isSome:=by
 cases o with
 |none=>cases u with
  |none=>rfl
  |some _=>exact(show False from r).elim
 |some _=>cases u with
  |none=>exact(show False from r).elim
  |some _=>rfl
theorem mK.getD {o:Option V}{u:Option Value}{d:V}{d':Value}(r:mK o u)(rd:RelV d d'):RelV (o.getD d) (u.getD d'):=by
 cases o with
 |none=>cases u with
  |none=>exact rd
  |some _=>exact(show False from r).elim
 |some _=>cases u with
  |none=>exact(show False from r).elim
  |some _=>exact r
theorem KV.val {kvs:List (κ×V)}{vs:List (κ×Value)}(r:KV kvs vs)(k:κ):mK (qZ kvs k) (valueAt vs k):=by
 unfold KV at r
 induction r with
 |nil=>exact True.intro
 | @cons p q ps qs h t ih=>
  obtain⟨h1,h2⟩:=h;by_cases e:p.1=k
  ·have e':q.1=k:=h1.symm.trans e;have b:valueAt (q::qs) k=some q.2:=by simp[valueAt,find?_cons,e']
   rw[valV_pos e,b];exact h2
  ·have e':¬q.1=k:=λz=>e (h1.trans z);have b:valueAt (q::qs) k=valueAt qs k:=by simp[valueAt,find?_cons,e']
   rw[valV_neg e,b];exact ih
end
theorem kV_is {P:Program}{w:World}{k:Key}{u:Value}(r:RelV (kV k) u):(oV P w).is k u=true:=by
 cases k with
 |inl i=>obtain⟨t,e⟩:=(show∃t,u=Value.int i t from r);subst e;exact Yj P w i t
 |inr x=>obtain⟨t,e⟩:=(show∃t,u=Value.str x t from r);subst e;exact Yk P w x t
abbrev KT (H:Hp):List (List Key×V)->List (List Key×Addr×Value)->Prop:=Paired λp q=>p.1=q.1/\H q.2.1=some (.tup (p.1.map kV))/\RelV p.2 q.2.2
theorem KT.keeps {H Z:Hp}{kvs:List (List Key×V)}{xs:List (List Key×Addr×Value)}(r:KT H kvs xs)(ht:∀b ys,H b=some (.tup ys)->Z b=some (.tup ys)):KT Z kvs xs:=
 Paired.mapP r λy y z=>⟨z.1,ht _ _ z.2.1,z.2.2⟩
section
variable {P:Program}{w:World}{H:Hp}{h:Heap}{a:Addr}
end
def DGet (H:Hp)(a:Addr)(y:V)(r:Option V):Prop:=
 (∃kvs k,Rd H a (.dK kvs)/\y=kV k/\r=qZ kvs k)\/∃kvs k b,Rd H a (.dT kvs)/\y=.ref b/\H b=some (.tup (k.map kV))/\r=qZ kvs k
def DPut (H:Hp)(a:Addr)(y v:V)(Z:Hp):Prop:=
 (∃kvs k,H a=some (.dK kvs)/\y=kV k/\kvs.length<sizeLine/\Z=aN H a (.dK (putK kvs k v)))\/
 ∃kvs k b,H a=some (.dT kvs)/\y=.ref b/\H b=some (.tup (k.map kV))/\kvs.length<sizeLine/\Z=aN H a (.dT (putK kvs k v))
theorem DGet.k {H:Hp}{a:Addr}{kvs:List (Key×V)}{k:Key}(e:H a=some (.dK kvs)):DGet H a (kV k) (qZ kvs k):=.inl ⟨kvs,k,.inl e,rfl,rfl⟩
theorem DGet.t {H:Hp}{a b:Addr}{kvs:List (List Key×V)}{k:List Key}(e:H a=some (.dT kvs))(eb:H b=some (.tup (k.map kV))):DGet H a (.ref b) (qZ kvs k):=.inr ⟨kvs,k,b,.inl e,rfl,eb,rfl⟩
theorem DPut.k {H:Hp}{a:Addr}{kvs:List (Key×V)}{k:Key}{v:V}(e:H a=some (.dK kvs))(hl:kvs.length<sizeLine):DPut H a (kV k) v (aN H a (.dK (putK kvs k v))):=.inl ⟨kvs,k,e,rfl,hl,rfl⟩
theorem DPut.t {H:Hp}{a b:Addr}{kvs:List (List Key×V)}{k:List Key}{v:V}(e:H a=some (.dT kvs))(eb:H b=some (.tup (k.map kV)))(hl:kvs.length<sizeLine):
  DPut H a (.ref b) v (aN H a (.dT (putK kvs k v))):=.inr ⟨kvs,k,b,e,rfl,eb,hl,rfl⟩
section
variable {X:Cx}{aj:LO0}{σ:St}{H:Hp}{s:Shared}{a:Addr}{y v:V}{u r:Value}{o:Option V}{A:Around}{E:VS0}
theorem Inv.big (I:Inv X aj σ H s):sysModules<s.heap.objs.size:=by
 have h:mainGlobals<s.heap.objs.size:=(I.mod.glob.keeps I.bk).lt;exact lt_trans (by decide) h
end
section
variable {X:Cx}{aj:LO0}{σ:St}{H:Hp}{s:Shared}{a:Addr}{kvs:List (Key×V)}{k:Key}{u:Value}{A:Around}{E:VS0}
end
def NoSl (i:Expr):Prop:=∀ov iv,subscripted i false ov iv=operate [ov,iv] (getItem ov iv)
theorem subD_of {prog:Program}{w:World}{A:Around}{E:VS0}{s:Shared}{env:Env}{value slice:Expr}{pos:Pos}{T id:String}{Q:VS0}
  (hl:typeLookup (.type T) "__getitem__"=pure (some (.builtin id))) (hs:NoSl slice)
  (h:wpAny (model prog w) A (eval value env) (λo s₁=>wpAny (model prog w) A (eval slice env) (λi s₂=>s₂.TypeIs o T/\wpAny (model prog w) A (getItem o i) Q E s₂) E s₁) E s):
  wpAny (model prog w) A (eval (.Subscript value slice pos) env) Q E s:=by
 refine Subscript_ (wpAny_mono h (λo s₁ h₁=>wpAny_mono h₁ (λi s₂ h₂=>?_) λz z x=>x) λz z x=>x);obtain⟨hT,h₂⟩:=h₂;unfold subscriptTail;refine wpAny_bind ?_;rw[getitemInPython_of_ne hT.not_modules];refine wpAny_bind (wpAny_specialOf hT hl ?_);have fin:wpAny (model prog w) A (subscripted slice false o i) (λr s₃=>wpAny (model prog w) A (letTemporaryGo value o r>>= λz=>pure r) Q E s₃) E s₂:=by
  rw[hs o i];exact wpAny_operating (wpAny_mono h₂ (λr s₃ h₃=>wpAny_bind (wpAny_letTemporaryGo (wpAny_pure h₃))) λz z x=>x)
 first
  |exact wpAny_pure (wpAny_bind fin)
  |exact wpAny_bind (wpAny_pure (wpAny_bind fin))
  |exact wpAny_bind fin
section
variable {X:Cx}{o i e value:Expr}{pos pos' tpos:Pos}{td ty tv:TE}
end
section
variable {X:Cx}{pos:Pos}
end
structure M2 (X:Cx)(o:Expr)(m:Str)(apos:Pos)(e f:Expr)(cpos:Pos):Prop where
 aq:attributeBase o m X.env (eval o X.env)=eval o X.env
 few:((backTo cpos (starEach [e,f] X.env)).all (λx=> !x.1)&&(backToKw cpos (keywordEach [] X.env)).all (λx=>x.1.isSome) &&decide (([e,f]:List Expr).length+([]:List Keyword).length+(if ([]:List Keyword).isEmpty then 0 else 1)<30))=true
 line:(apos.endLine == cpos.line)=true
 trees:backTo cpos (starEach [e,f] X.env)=[(false,eval e X.env),(false,eval f X.env)]
section
variable {X:Cx}{aj:LO0}{σ:St}{H:Hp}{s:Shared}{a:Addr}{y d:V}{u r:Value}{o:Option V}{A:Around}{E:VS0}
end
section
variable {X:Cx}{o e f:Expr}{apos cpos:Pos}{td ty tx:TE}
end
section
variable {X:Cx}{aj:LO0}{σ:St}{H:Hp}{s:Shared}{a:Addr}{kvs:List (Key×V)}{A:Around}{E:VS0}
end
section
variable {X:Cx}{aj:LO0}{σ:St}{H:Hp}{s:Shared}{a:Addr}{y:V}{u:Value}{A:Around}{E:VS0}
end
end L2
namespace L2
section
variable {prog:Program}{w:World}{A:Around}{E:VS0}
end
section
variable {X:Cx}
end
end L2
namespace L2
theorem Qa:bootBuiltins "reversed"=some (.type "reversed"):=by decide+kernel
section
variable {X:Cx}{aj:LO0}{σ:St}{H:Hp}{s:Shared}{h':Heap}
theorem Inv.turnedL {t':Nat}{ch:List Addr}(I:Inv X aj σ H s)(k:∀b o,b∉ch->s.heap.get? b=some o->h'.get? b=some o)(hf:∀b∈ch,ux X aj H b):Inv X aj σ H {s with heap:=h',toks:=t'}:=by
 have Rb:∀b u,H b=some u->b∉ch:=λb u e z=>by
  have q:=(hf b z).1;rw[q] at e;cases e
 refine I.step (g':=s.gens) (d':=s.drawn) (ch:=ch) (λb hb=>⟨(hf b hb).2.2.2.1,(hf b hb).2.1,(hf b hb).2.2.2.2.1,(hf b hb).2.2.2.2.2⟩) (λb o y y hc e y=>k b o hc e) (λb o y y hc e y=>⟨o.slots,k b o hc e⟩)
  (λy y y y n=>n) (λb o hc e=>⟨o,k b o hc e⟩) (λy y e=>e) (λy y y e=>e) (λb ps e=>⟨#[],by rw[e];simp⟩) (λm hm=>?_) (λb u e=>?_) I.bare
 ·obtain⟨o,es,ep,ho,r⟩:=hm;exact⟨o,es,ep,k _ o (λz=>(hf _ z).2.1 rfl) ho,r⟩
 ·refine(I.hok b u e).stay (λc v hc q=>k c v ?_ q) (λy q=>q) λy y q=>q;rcases hc with z|z
  ·rw[z];exact Rb b u e
  ·exact Rb c _ z
theorem Inv.Rq {t':Nat}{ch:List Addr}{T:Addr}{ob:HO}(I:Inv X aj σ H s)(k:∀b o,b∉ch->s.heap.get? b=some o->h'.get? b=some o)(hf:∀b∈ch,ux X aj H b)(hT:s.heap.objs.size<=T)
  (new:iH X.prog X.w (aN H T ob) h' T ob):Inv X aj σ (aN H T ob) {s with heap:=h',toks:=t'}:=by
 have hn:H T=none:=I.hok.fresh hT;have Rb:∀b u,H b=some u->b∉ch:=λb u e z=>by
  have q:=(hf b z).1;rw[q] at e;cases e
 refine I.step (g':=s.gens) (d':=s.drawn) (ch:=ch) (λb hb=>⟨(hf b hb).2.2.2.1,(hf b hb).2.1,(hf b hb).2.2.2.2.1,(hf b hb).2.2.2.2.2⟩) (λb o y y hc e y=>k b o hc e) (λb o y y hc e y=>⟨o.slots,k b o hc e⟩)
  (λb o y e n=>?_) (λb o hc e=>⟨o,k b o hc e⟩) (λb xs e=>?_) (λb o u e=>?_) (λb ps e=>⟨#[],?_⟩) (λm hm=>?_) (λb u e=>?_) I.bare
 ·rw[aO (ne_of_lt (lt_of_lt_of_le (Heap.lt_size e) hT))];exact n
 ·rw[aO (aW e hn)];exact e
 ·rw[aO (aW e hn)];exact e
 ·rw[aO (aW e hn),e];simp
 ·obtain⟨o,es,ep,ho,r⟩:=hm;exact⟨o,es,ep,k _ o (λz=>(hf _ z).2.1 rfl) ho,r⟩
 ·by_cases hb:b=T
  ·subst hb;rw[ao] at e;cases e;exact new
  ·rw[aO hb] at e;refine(I.hok b u e).stay (λc v hc q=>k c v ?_ q) (λc q=>by rw[aO (aW q hn)];exact q) λc xs q=>by rw[aO (aW q hn)];exact q
   rcases hc with z|z
   ·rw[z];exact Rb b u e
   ·exact Rb c _ z
end
section
variable {X:Cx}
theorem pi_one {tg:Expr}{aj:LO0}{σ:St}{H:Hp}{s:Shared}{R:It->Hp->Prop}{J:It}{tn:Nat->Heap->Prop}{tk:Nat}(I:Inv X aj σ H s)(o:Obj)
  (T:Turn X.prog X.w X.K tg J [s.heap.objs.size] s.heap.objs.size tn) (st:tn 0 (s.heap.push o)) (q:R J H):PIE X aj σ tg R (.ref s.heap.objs.size) {s with heap:=s.heap.push o,toks:=tk}:=by
 refine⟨s.heap.objs.size,[s.heap.objs.size],tn,J,H,rfl,I.kept λb ob e=>Heap.get?_push_of_some _ e,T,st,λb hb=>?_,q⟩;have e:b=s.heap.objs.size:=by simpa using hb
 subst e;exact I.Pz (Nat.le_refl _) (I.hok.fresh (Nat.le_refl _))
end
def Itc (lo c:Int)(n:Nat):It:=⟨λi z=>i<n,λi H x Z=>Z=H/\x=.int (lo+(i:Nat)*c),λi z=>n<=i⟩
theorem Yp {P:Program}{w:World}{K:Frag}{tg:Expr}(it:Addr)(lo c:Int)(n:Nat):Turn P w K tg (Itc lo c n) [it] it (λi h=>IsRangeIter h it (lo+(i:Nat)*c) ((n:Int)-(i:Nat)) c) where
 mem:=by simp
 obj:=λi h st b hb=>by
  have e:b=it:=by simpa using hb
  subst e;exact⟨_,st,λv z=>nomatch z⟩
 keep:=λi h h' st k=>k it (by simp) _ st
 item:=by
  intro X hP hw hK hc i aj s σ H E I hf st hg;subst hP hw hK;obtain⟨f0,f1,f2,f3,f4,f5⟩:=hf it (by simp);have W:=Walks.range (prog:=X.prog) (w:=X.w) (I.ok.hd hc) it lo c n;refine W.item i s _ _ hg st λv h' tk hv st' kk=>?_;obtain⟨t,rfl⟩:=hv;have I1:Inv X aj σ H {s with heap:=h',toks:=tk}:=I.turned (λb o hb e=>kk b o (by simpa using hb) e) f0 f1 f3 f4 f5
  exact⟨_,rfl,Ux (s:={s with heap:=h',toks:=tk}) (n:="range_iterator") st' rfl rfl (by decide) ⟨.int (lo+(i:Nat)*c),H,I1,⟨t,rfl⟩,⟨rfl,rfl⟩,st',λb hb=>(hf b hb).1⟩⟩
 done:=by
  intro X hP hw hK hc i aj s σ H E I hf st hg;subst hP hw hK;obtain⟨f0,f1,f2,f3,f4,f5⟩:=hf it (by simp);exact wpAny_pyNext_range_end (I.ok.hd hc) st (by have:n<=i:=hg;lia) λh' eb=>⟨rfl,I.turned (t':=s.toks) (λb o hb e=>eb b o hb e) f0 f1 f3 f4 f5⟩
 self:=λA i s Q E st h=>wpAny_pyIter_rangeiter st h
def RgC (i j c:Int)(n:Nat):Prop:=c≠0/\c.natAbs<1073741824/\Builtin.Range.small i j c=true/\Builtin.Range.rangeSize i j c=n
theorem RgC.neg {i j:Int}(ha: -(2^62)<=i)(ha':i<2^62)(hb: -(2^62)<=j)(hb':j<2^62):RgC i j (-1) (i-j).toNat:=
 ⟨by decide,by decide,PySem.W.small_down ha ha' hb hb',PySem.W.rangeSize_downNat i j⟩
def iRng3 (ta:TA):TI:=λσ H R=>ta σ H λvs H1=>∃(i j c:Int) (n:Nat),vs=[.int i,.int j,.int c]/\RgC i j c n/\R (Itc i c n) H1
section
variable {X:Cx}{tg:Expr}
theorem Rr {a b c:Expr}{ta:TA}{p pos:Pos}(hg:Gl X "range")(hm:X.mg "range"=none)(ha:PA X [a,b,c] ta)
  (hs:starEach [a,b,c] X.env=(false,eval a X.env)::starEach [b,c] X.env:=by rfl) (hpl:(backTo pos (starEach [b,c] X.env)).any (·.1)=false:=by rfl):
  PI X tg (.Call (.Name "range" p) [a,b,c] [] pos) (iRng3 ta):=by
 intro aj s σ H R I h;refine Call_ (pK I hg hm boot_range (PyProof.Rows.callWith_type1 (bW (ha pos aj s σ H _ I h) λus s1 ⟨vs,H1,I1,r1,q1⟩=>?_) hs hpl));obtain⟨i,j,k,n,e,⟨c0,c1,c2,c3⟩,q⟩:=q1;subst e;cases r1 with
 |cons r rr=>
  cases rr with
  |cons r' rr=>
   cases rr with
   |cons r'' rr=>
    cases rr;obtain⟨t,rfl⟩:=r;obtain⟨t',rfl⟩:=r';obtain⟨t'',rfl⟩:=r'';refine call_range_3 c0 ?_ (.inl (PyProof.noPylong_small c1));refine wpAny_pyIter_range (IsRange.new ..) c2 ?_;have I2:Inv X aj σ H1 {s1 with heap:=s1.heap.push {cls:=.type "range",data:=.fields #[.int i t,.int j t',.int k t'']}}:=I1.kept (t':=s1.toks) λb o e=>Heap.get?_push_of_some _ e
    refine pi_one (tk:=s1.toks) I2 _ (Yp _ i k n) ?_ q;have e1:i+((0:Nat):Int)*k=i:=by simp
    have e2:(n:Int)-((0:Nat):Int)=Builtin.Range.rangeSize i j k:=by rw[c3];simp
    show IsRangeIter _ _ (i+((0:Nat):Int)*k) ((n:Int)-((0:Nat):Int)) k;rw[e1,e2];exact Heap.get?_push_size _ rfl
end
theorem Nh {lo c:Int}{n:Nat}{g:TG}{tb:TS}{D:Ends}{σ:St}{H:Hp}(Pv:Nat->St->Hp->Prop)(h0:Pv 0 σ H)
  (hs:∀i σ H,i<n->Pv i σ H->g (.int (lo+(i:Nat)*c)) σ H λσ2 H2=>tb {D with nx:=Pv (i+1),ct:=Pv (i+1),bk:=D.nx} σ2 H2) (hd:∀σ H,Pv n σ H->D.nx σ H):
  ∃W:Nat->Nat->St->Hp->Prop,(∃m,W 0 m σ H)/\∀i m σ H,W i m σ H->
   ((Itc lo c n).stop i H/\D.nx σ H)\/((Itc lo c n).go i H/\∃N:St->Hp->Prop,(∀σ' Z,N σ' Z->∃m',m'<m/\W (i+1) m' σ' Z)/\∀x Z,(Itc lo c n).zX i H x Z->g x σ Z λσ2 H2=>tb {D with nx:=N,ct:=N,bk:=D.nx} σ2 H2):=by
 refine⟨λi m σ H=>m=n-i/\i<=n/\Pv i σ H,⟨n,by simp,zero_le _,h0⟩,?_⟩;rintro i m σ H ⟨rfl,hi,p⟩;by_cases hlt:i<n
 ·refine .inr ⟨hlt,Pv (i+1),λσ' Z p'=>⟨n-(i+1),by lia,rfl,hlt,p'⟩,λx Z y=>?_⟩;obtain⟨e,y⟩:=y;subst e y;exact hs i σ _ hlt p
 ·have e:i=n:=by lia
  subst e;exact .inl ⟨Nat.le_refl _,hd σ H p⟩
def Itv (K:Frag)(a:Addr)(n:Nat):It:=
 ⟨λi H=>i<n/\∃(xs:List V) (x:V),aF K H a xs/\xs[n-1-i]? =some x,λi H x Z=>Z=H/\∀xs,aF K H a xs->xs[n-1-i]? =some x,λi z=>n<=i⟩
theorem turn_rev {P:Program}{w:World}{K:Frag}{tg:Expr}(a it:Addr)(n:Nat):Turn P w K tg (Itv K a n) [it] it (λi h=>i<=n/\h.IsRevIter it a ((n:Int)-1-(i:Nat))) where
 mem:=by simp
 obj:=λi h st b hb=>by
  have e:b=it:=by simpa using hb
  subst e;obtain⟨_,o,e,c,d⟩:=st;exact⟨o,e,λv z=>by rw[d] at z;cases z⟩
 keep:=λi h h' st k=>⟨st.1,st.2.at λo e=>k it (by simp) o e⟩
 item:=by
  intro X hP hw hK hc i aj s σ H E I hf st hg;subst hP hw hK;obtain⟨hin,xs,x,hq,hx⟩:=hg;obtain⟨its,rv,p,hz⟩:=I.list hq;obtain⟨u,hu,ru⟩:=rv.get hx;obtain⟨f0,f1,f2,f3,f4,f5⟩:=hf it (by simp);obtain⟨_,hit⟩:=st;have e1:(n:Int)-1-((i:Nat):Int)=((n-1-i:Nat):Int):=by lia
  rw[e1] at hit;refine wpAny_pyNext_rev_item hit p.isList (x:=u) (by simpa using hu) λh' st' sb=>?_;have e2:((n-1-i:Nat):Int)-1=(n:Int)-1-((i+1:Nat):Int):=by lia
  rw[e2] at st';have I1:Inv X aj σ H {s with heap:=h'}:=I.turned (t':=s.toks) (λb o hb e=>(sb.2 b hb).trans e) f0 f1 f3 f4 f5
  obtain⟨o,e,c,d⟩:=id st';exact⟨u,rfl,Ux (s:={s with heap:=h'}) e c d (by decide) ⟨x,H,I1,ru,⟨rfl,λys hy=>by rw[I.vV hy hq];exact hx⟩,⟨hin,st'⟩,λb hb=>(hf b hb).1⟩⟩
 done:=by
  intro X hP hw hK hc i aj s σ H E I hf st hg;subst hP hw hK;obtain⟨f0,f1,f2,f3,f4,f5⟩:=hf it (by simp);obtain⟨hin,hit⟩:=st;have hge:n<=i:=hg;have e1:(n:Int)-1-((i:Nat):Int)= -1:=by lia
  rw[e1] at hit;exact wpAny_pyNext_rev_end (I.ok.hd hc) hit λh' eb=>⟨rfl,I.turned (t':=s.toks) (λb o hb e=>eb b o hb e) f0 f1 f3 f4 f5⟩
 self:=λA i s Q E st h=>wpAny_pyIter_revIter st.2 h
def iRev (K:Frag)(ta:TA):TI:=λσ H R=>ta σ H λvs H1=>∃(a:Addr) (xs:List V),vs=[.ref a]/\aF K H1 a xs/\R (Itv K a xs.length) H1
section
variable {X:Cx}{tg:Expr}
theorem Yq {e:Expr}{ta:TA}{p pos:Pos}(hg:Gl X "reversed")(hm:X.mg "reversed"=none)(ha:PA X [e] ta)(hs:starEach [e] X.env=[(false,eval e X.env)]:=by rfl):PI X tg (.Call (.Name "reversed" p) [e] [] pos) (iRev X.K ta):=by
 intro aj s σ H R I h;refine Call_ (pK I hg hm Qa (PyProof.Rows.callWith_type1 (bW (ha pos aj s σ H _ I h) λus s1 ⟨vs,H1,I1,r1,q1⟩=>?_) hs rfl));obtain⟨a,xs,e,hq,q⟩:=q1;subst e;cases r1 with
 |cons r rr=>
  cases rr;cases r;obtain⟨its,rv,p',hz⟩:=I1.list hq;have hl:=rv.length;have e1:((its.toArray.size:Nat):Int)-1=(xs.length:Int)-1-((0:Nat):Int):=by simp only[size_toArray];lia
  refine call_reversed_list p'.isList (wpAny_pyIter_revIter (l:=a) (i:=((its.toArray.size:Nat):Int)-1) ⟨_,Heap.get?_push_size _ rfl,rfl,rfl⟩ ?_);refine pi_one (tk:=s1.toks) I1 _ (turn_rev a _ xs.length) ⟨zero_le _,?_⟩ q;rw[<-e1];exact⟨_,Heap.get?_push_size _ rfl,rfl,rfl⟩
end
section
variable {prog:Program}{w:World}{A:Around}{E:VS0}{s:Shared}
end
section
variable {X:Cx}{aj:LO0}{σ:St}{H:Hp}{s:Shared}{d:Addr}{o:Obj}
end
section
variable {P:Program}{w:World}{K:Frag}{tg:Expr}{d:Addr}{o:Obj}{es:Array DictEntry}{ep:Nat}
end
section
variable {X:Cx}{tg e:Expr}{td:TE}{apos cpos:Pos}
end
def Ite (K:Frag)(a:Addr):It:=
 ⟨λi H=>∃(xs:List V) (x:V),aF K H a xs/\xs[i]? =some x,λi H v Z=>∃T x,v=.ref T/\H T=none/\Z=aN H T (.tup [.int (i:Nat),x])/\∀xs,aF K H a xs->xs[i]? =some x,λi H=>∃xs:List V,aF K H a xs/\xs.length<=i⟩
theorem turn_enum {P:Program}{w:World}{K:Frag}{elts:List Expr}{kk:Nat}{tpos:Pos}(a e it:Addr):
  Turn P w K (.Tuple elts kk tpos) (Ite K a) [e,it] e (λi h=>(∃old,IsEnum h e it ((i:Nat):Int) old)/\h.IsListIter it a i/\e≠it) where
 mem:=by simp
 obj:=λi h st b hb=>by
  obtain⟨⟨old,he⟩,⟨o,ho,hc,hd⟩,_⟩:=st;have e':b=e\/b=it:=by simpa using hb
  rcases e' with z|z
  ·rw[z];exact⟨_,he,λv q=>nomatch q⟩
  ·rw[z];exact⟨o,ho,λv q=>by rw[hd] at q;cases q⟩
 keep:=λi h h' st k=>let ⟨⟨old,he⟩,hi,hne⟩:=st;⟨⟨old,k e (by simp) _ he⟩,hi.at λo q=>k it (by simp) o q,hne⟩
 item:=by
  intro X hP hw hK hc i aj s σ H E I hf st hg;subst hP hw hK;obtain⟨⟨old,he⟩,hit,hne⟩:=st;obtain⟨xs,x,hq,hx⟩:=hg;obtain⟨its,rv,p,hz⟩:=I.list hq;obtain⟨u,hu,ru⟩:=rv.get hx;have hel:e<s.heap.objs.size:=Heap.lt_size he;have hil:it<s.heap.objs.size:=by obtain⟨_,q,_⟩:=hit;exact Heap.lt_size q
  refine wpAny_pyNext_enum_item he hit p.isList (x:=u) (by simpa using hu) hne λh' ho hit' hT hsz O=>?_;refine⟨_,rfl,wpAny_letOwnedTupleGo_enum (s:={s with heap:=h',toks:=s.toks+1}) ho λh'' he' sb=>?_⟩
  have hT2:h''.get? s.heap.objs.size=some {cls:=.type "tuple",data:=.seq #[.int i s.toks,u]}:=(sb.2 _ (Nat.ne_of_gt hel)).trans hT;have new:iH X.prog X.w (aN H s.heap.objs.size (.tup [.int (i:Nat),x])) h'' s.heap.objs.size (.tup [.int (i:Nat),x]):=
   ⟨by show 2<=sizeLine;decide,[.int i s.toks,u],.cons ⟨_,rfl⟩ (.cons ru .nil),⟨_,hT2,rfl,_,rfl⟩⟩
  have I1:Inv X aj σ (aN H s.heap.objs.size (.tup [.int (i:Nat),x])) {s with heap:=h'',toks:=s.toks+1}:=
   I.Rq (ch:=[e,it]) (λb ob hb q=>(sb.2 b (λz=>hb (by simp[z]))).trans (O b ob (λz=>hb (by simp[z])) (λz=>hb (by simp[z])) q)) hf (Nat.le_refl _) new
  refine⟨.ref s.heap.objs.size,_,I1,rfl,⟨_,x,rfl,I.hok.fresh (Nat.le_refl _),rfl,λys hy=>by rw[I.vV hy hq];exact hx⟩,⟨⟨u,?_⟩,hit'.at λo q=>(sb.2 it (Ne.symm hne)).trans q,hne⟩,λb hb=>?_⟩
  ·have e1:((i+1:Nat):Int)=(i:Int)+1:=by lia
   rw[e1];exact he'
  ·have hb':b<s.heap.objs.size:=by
    have e':b=e\/b=it:=by simpa using hb
    rcases e' with z|z
    ·rw[z];exact hel
    ·rw[z];exact hil
   rw[aO (ne_of_lt hb')];exact(hf b hb).1
 done:=by
  intro X hP hw hK hc i aj s σ H E I hf st hg;subst hP hw hK;obtain⟨⟨old,he⟩,hit,hne⟩:=st;obtain⟨xs,hq,hx⟩:=hg;obtain⟨its,rv,p,hz⟩:=I.list hq;obtain⟨f0,f1,f2,f3,f4,f5⟩:=hf it (by simp);have hl:=rv.length;exact wpAny_pyNext_enum_end (I.ok.hd hc) he hit p.isList (by simp;lia) λh' eb=>⟨rfl,I.turned (t':=s.toks) (λb o hb q=>eb b o hb q) f0 f1 f3 f4 f5⟩
 self:=λA i s Q E st h=>let ⟨⟨_,he⟩,_⟩:=st;wpAny_pyIter_enum he h
def iEnum (K:Frag)(ta:TA):TI:=λσ H R=>ta σ H λvs H1=>∃a xs,vs=[.ref a]/\aF K H1 a xs/\R (Ite K a) H1
theorem pi_enum {X:Cx}{e:Expr}{ta:TA}{p pos tpos:Pos}{elts:List Expr}{kk:Nat}(hg:Gl X "enumerate")(hm:X.mg "enumerate"=none)(ha:PA X [e] ta)(hs:starEach [e] X.env=[(false,eval e X.env)]:=by rfl):
  PI X (.Tuple elts kk tpos) (.Call (.Name "enumerate" p) [e] [] pos) (iEnum X.K ta):=by
 intro aj s σ H R I h;refine Call_ (pK I hg hm boot_enumerate (PyProof.Rows.callWith_type1 (bW (ha pos aj s σ H _ I h) λus s1 ⟨vs,H1,I1,r1,q1⟩=>?_) hs rfl));obtain⟨a,xs,ex,hq,q⟩:=q1;subst ex;cases r1 with
 |cons r rr=>
  cases rr;cases r;obtain⟨its,rv,p',hz⟩:=I1.list hq;refine call_enumerate_list p'.isList λh' he hit hsz O=>wpAny_pyIter_enum he ?_;have I2:Inv X aj σ H1 {s1 with heap:=h'}:=I1.kept (t':=s1.toks) O
  refine⟨s1.heap.objs.size+1,[s1.heap.objs.size+1,s1.heap.objs.size],_,_,H1,rfl,I2,turn_enum a (s1.heap.objs.size+1) s1.heap.objs.size,⟨⟨.none,he⟩,hit,Nat.succ_ne_self _⟩,λb hb=>?_,q⟩;have e':b=s1.heap.objs.size+1\/b=s1.heap.objs.size:=by simpa using hb
  have hle:s1.heap.objs.size<=b:=by
   rcases e' with z|z
   ·rw[z];exact le_add_right _ _
   ·rw[z];exact Nat.le_refl _
  exact I1.Pz hle (I1.hok.fresh hle)
theorem boot_zip5:bootBuiltins "zip"=some (.type "zip"):=by decide+kernel
def Zb (K:Frag)(a b:Addr):It:=
 ⟨λi H=>∃(xs ys:List V) (x y:V),aF K H a xs/\aF K H b ys/\xs[i]? =some x/\ys[i]? =some y, λi H v Z=>∃T x y,v=.ref T/\H T=none/\Z=aN H T (.tup [x,y])/\(∀xs,aF K H a xs->xs[i]? =some x)/\∀ys,aF K H b ys->ys[i]? =some y, λi H=>∃xs ys:List V,aF K H a xs/\aF K H b ys/\(xs.length<=i\/ys.length<=i)⟩
theorem turn_zip {P:Program}{w:World}{K:Frag}{elts:List Expr}{kk:Nat}{tpos:Pos}{a b z TI TO i1 i2:Addr}(D:ZipApart z TI TO i1 i2 a b):
  Turn P w K (.Tuple elts kk tpos) (Zb K a b) [z,TI,TO,i1,i2] z (λi h=>IsZip h z TI TO .none/\IsPair h TI (.ref i1) (.ref i2)/\(∃x y,IsPair h TO x y)/\h.IsListIter i1 a i/\h.IsListIter i2 b i) where
 mem:=by simp
 obj:=λi h st c hc=>by
  obtain⟨hz,hTI,⟨x,y,hTO⟩,⟨o1,e1,_,d1⟩,⟨o2,e2,_,d2⟩⟩:=st;have e':c=z\/c=TI\/c=TO\/c=i1\/c=i2:=by simpa using hc
  rcases e' with q|q|q|q|q
  ·rw[q];exact⟨_,hz,λv q=>nomatch q⟩
  ·rw[q];exact⟨_,hTI,λv q=>nomatch q⟩
  ·rw[q];exact⟨_,hTO,λv q=>nomatch q⟩
  ·rw[q];exact⟨o1,e1,λv q=>by rw[d1] at q;cases q⟩
  ·rw[q];exact⟨o2,e2,λv q=>by rw[d2] at q;cases q⟩
 keep:=λi h h' st k=>by
  obtain⟨hz,hTI,⟨x,y,hTO⟩,h1,h2⟩:=st;exact⟨k z (by simp) _ hz,k TI (by simp) _ hTI,⟨x,y,k TO (by simp) _ hTO⟩,h1.at λo q=>k i1 (by simp) o q,h2.at λo q=>k i2 (by simp) o q⟩
 item:=by
  intro X hP hw hK hc i aj s σ H E I hf st hg;subst hP hw hK;obtain⟨hz,hTI,⟨x0,y0,hTO⟩,h1,h2⟩:=st;obtain⟨xs,ys,x,y,Zc,Zd,hx,hy⟩:=hg;obtain⟨its,rv,p,_⟩:=I.list Zc;obtain⟨its2,rv2,p2,_⟩:=I.list Zd;obtain⟨u,hu,ru⟩:=rv.get hx;obtain⟨u2,hu2,ru2⟩:=rv2.get hy;have Vu:z<s.heap.objs.size:=Heap.lt_size hz;refine wpAny_pyNext_zip_item D hz hTI hTO h1 h2 p.isList p2.isList (x:=u) (y:=u2) (by simpa using hu) (by simpa using hu2) λh' z' TO' h1' h2' hT hsz O=>?_;refine⟨_,rfl,wpAny_letOwnedTupleGo_zip (s:={s with heap:=h'}) z' λh'' z'' sb=>?_⟩
  have hT2:h''.get? s.heap.objs.size=some {cls:=.type "tuple",data:=.seq #[u,u2]}:=(sb.2 _ (Nat.ne_of_gt Vu)).trans hT;have new:iH X.prog X.w (aN H s.heap.objs.size (.tup [x,y])) h'' s.heap.objs.size (.tup [x,y]):=
   ⟨by show 2<=sizeLine;decide,[u,u2],.cons ru (.cons ru2 .nil),⟨_,hT2,rfl,_,rfl⟩⟩
  have I1:Inv X aj σ (aN H s.heap.objs.size (.tup [x,y])) {s with heap:=h''}:=
   I.Rq (t':=s.toks) (ch:=[z,TI,TO,i1,i2]) (λc o hb q=>(sb.2 c (λq'=>hb (by simp[q']))).trans (O c o (λq'=>hb (by simp[q'])) (λq'=>hb (by simp[q'])) (λq'=>hb (by simp[q'])) (λq'=>hb (by simp[q'])) q)) hf (Nat.le_refl _) new
  refine⟨.ref s.heap.objs.size,_,I1,rfl,⟨_,x,y,rfl,I.hok.fresh (Nat.le_refl _),rfl,λl hl=>by rw[I.vV hl Zc];exact hx,λl hl=>by rw[I.vV hl Zd];exact hy⟩,⟨z'',?_,⟨u,u2,?_⟩,?_,?_⟩,λc hcm=>?_⟩
  ·exact(sb.2 _ D.TIz).trans (O _ _ D.TIz D.TITO D.TIi1 D.TIi2 hTI)
  ·exact(sb.2 _ D.TOz).trans TO'
  ·exact h1'.at λo q=>(sb.2 _ D.i1z).trans q
  ·exact h2'.at λo q=>(sb.2 _ D.i2z).trans q
  ·have hlt:c<s.heap.objs.size:=by
    have e':c=z\/c=TI\/c=TO\/c=i1\/c=i2:=by simpa using hcm
    rcases e' with q|q|q|q|q
    ·rw[q];exact Vu
    ·rw[q];exact Heap.lt_size hTI
    ·rw[q];exact Heap.lt_size hTO
    ·rw[q];obtain⟨_,e1,_⟩:=h1;exact Heap.lt_size e1
    ·rw[q];obtain⟨_,e2,_⟩:=h2;exact Heap.lt_size e2
   rw[aO (ne_of_lt hlt)];exact(hf c hcm).1
 done:=by
  intro X hP hw hK hc i aj s σ H E I hf st hg;subst hP hw hK;obtain⟨hz,hTI,⟨x0,y0,hTO⟩,h1,h2⟩:=st;obtain⟨xs,ys,Zc,Zd,hend⟩:=hg;obtain⟨its,rv,p,_⟩:=I.list Zc;obtain⟨its2,rv2,p2,_⟩:=I.list Zd;have l1:=rv.length;have l2:=rv2.length;have he:its.toArray[i]? =none\/its2.toArray[i]? =none:=by
   rcases hend with q|q
   ·exact .inl (by simp;lia)
   ·exact .inr (by simp;lia)
  exact wpAny_pyNext_zip_end (I.ok.hd hc) D hz hTI hTO h1 h2 p.isList p2.isList he λh' O=>⟨rfl,I.turnedL (t':=s.toks) (ch:=[z,TI,TO,i1,i2]) (λc o hb q=> O c o (λq'=>hb (by simp[q'])) (λq'=>hb (by simp[q'])) (λq'=>hb (by simp[q'])) (λq'=>hb (by simp[q'])) q) hf⟩
 self:=λA i s Q E st h=>wpAny_pyIter_zip st.1 h
def iZip (K:Frag)(ta:TA):TI:=λσ H R=>ta σ H λvs H1=>∃a b xs ys,vs=[.ref a,.ref b]/\aF K H1 a xs/\aF K H1 b ys/\R (Zb K a b) H1
theorem sU {X:Cx}{e e2:Expr}{ta:TA}{p pos tpos:Pos}{elts:List Expr}{kk:Nat}(hg:Gl X "zip")(hm:X.mg "zip"=none)(ha:PA X [e,e2] ta)
  (hs:starEach [e,e2] X.env=(false,eval e X.env)::starEach [e2] X.env:=by rfl) (hpl:(backTo pos (starEach [e2] X.env)).any (·.1)=false:=by rfl):
  PI X (.Tuple elts kk tpos) (.Call (.Name "zip" p) [e,e2] [] pos) (iZip X.K ta):=by
 intro aj s σ H R I h;refine Call_ (pK I hg hm boot_zip5 (PyProof.Rows.callWith_type1 (bW (ha pos aj s σ H _ I h) λus s1 ⟨vs,H1,I1,r1,q1⟩=>?_) hs hpl));obtain⟨a,b,xs,ys,ex,Zc,Zd,q⟩:=q1;subst ex;cases r1 with
 |cons r rr=>
  cases rr with
  |cons r' rr=>
   cases rr;cases r;cases r';obtain⟨its,rv,p1,_⟩:=I1.list Zc;obtain⟨its2,rv2,p2,_⟩:=I1.list Zd;have la:a<s1.heap.objs.size:=p1.lt;have lb:b<s1.heap.objs.size:=p2.lt;refine call_zip_2 p1.isList p2.isList λh' hz hTI hTO h1 h2 hsz O=>wpAny_pyIter_zip hz ?_;have I2:Inv X aj σ H1 {s1 with heap:=h'}:=I1.kept (t':=s1.toks) O
   refine⟨s1.heap.objs.size+4,[s1.heap.objs.size+4,s1.heap.objs.size+2,s1.heap.objs.size+3,s1.heap.objs.size,s1.heap.objs.size+1],_,_,H1,rfl,I2,turn_zip (PySem.W.ktu_apart s1.heap.objs.size a b la lb),⟨hz,hTI,⟨_,_,hTO⟩,h1,h2⟩,λc hcm=>?_,q⟩;have e':c=s1.heap.objs.size+4\/c=s1.heap.objs.size+2\/c=s1.heap.objs.size+3\/c=s1.heap.objs.size\/c=s1.heap.objs.size+1:=by simpa using hcm
   have hle:s1.heap.objs.size<=c:=by
    rcases e' with z|z|z|z|z
    ·rw[z];exact le_add_right _ _
    ·rw[z];exact le_add_right _ _
    ·rw[z];exact le_add_right _ _
    ·rw[z];exact Nat.le_refl _
    ·rw[z];exact le_add_right _ _
   exact I1.Pz hle (I1.hok.fresh hle)
end L2
section
namespace Bits
open PySem PyProof.Rows
end Bits
end
section
namespace TL
open PySem PySem.Builtin PySem.Builtin.Str PySem.StrLaws
abbrev tl (x:Str):List Nat:=x.cps.toList
end TL
end
namespace L2
section
variable {X:Cx}{aj:LO0}{σ:St}{H:Hp}{s:Shared}{Q:VK}
end
section
variable {X:Cx}
end
section
variable {X:Cx}{o e:Expr}{to te:TE}
end
end L2
namespace L2
section
variable {X:Cx}
end
end L2
namespace Att
open PySem PySem.W PySem.Calls PyProof.Rows
section
variable {prog:Program}{w:World}{A:Around}{E:VS0}{s:Shared}{K:Frag}
end
end Att
namespace L2
end L2
namespace L2
end L2
namespace L2
noncomputable def cu (s:Stmt)(j:Nat):Stmt:=match s with
 | .ClassDef _ _ _ body _ _ _ _ _ _ _=>body.getD j (.Pass ⟨0,0,0,0⟩)
 |_=>.Pass ⟨0,0,0,0⟩
noncomputable def gD (s:Stmt):Arguments:=match s with
 | .FunctionDef _ a _ _ _ _ _ _ _ _=>a
 |_=>{posonlyargs:=[],args:=[],vararg:=none,kwonlyargs:=[],kw_defaults:=[],kwarg:=none,defaults:=[]}
def gk (s:Stmt):List Stmt:=match s with
 | .FunctionDef _ _ b _ _ _ _ _ _ _=>b
 |_=>[]
noncomputable def bV (s:Stmt):Scope:=match s with
 | .FunctionDef _ _ _ _ _ _ sc _ _ _=>sc
 |_=>{kind:=.function,names:=[],isGenerator:=false,isCoroutine:=false}
abbrev vZ:yd:=λz z z z z z=>False
abbrev E0:XK:=λz z z=>False
theorem Jj {X:Cx}:Passes vZ X E0:=λz z z z z z z h=>h.elim
structure yh (K:Frag)(x qual:Str)(st:Stmt)(f:Addr)(fd:FuncData):Prop where
 ex:∃(oc:Value) (od:Option Addr) (kV doc pm:Value) (an:Option Addr) (cdv ct:Value) (osl:Array (Option Value)),
  fd=fnOf x qual (gD st) (gk st) (bV st) .none kV doc pm an cdv ct/\K.lookup f=some ⟨oc,od,.func fd,osl⟩/\codeIn K cdv qual=true
 kp:keepIn K (.ref f)=true
section
variable {P:Program}{w:World}{K:Frag}{mg:Str->Option Value}{aq:Heap}
theorem yh.ok {x qual:Str}{st:Stmt}{f:Addr}{fd:FuncData}{N ps:List Str}{k:Nat}{sp:Sp}(F:yh K x qual st f fd)(S:Jf N ps (bV st))(len:∀vs H Q E,sp vs H Q E->vs.length=ps.length)
  (hbody:∀(cdv:Value) (A:Around) (outer:List Env) (s:Shared) (H:Hp) (vs:List V) (Q:VK) (E:XK),cW k (A.deeper (envOfC qual (bV st) s.heap.objs.size f cdv))->sp vs H Q E-> ∃t,zV (uy vZ P w K mg aq N qual (bV st) f cdv A outer s H E).nox (gk st) t/\t {nx:=λz Z=>Q .non Z,rt:=Q} (start N vs) H):gJ P w K mg aq vZ (k+1) f fd ps sp:=by
 obtain⟨oc,od,kV,doc,pm,an,cdv,ct,osl,rfl,lk,hcd⟩:=F.ex;refine fn_of lk hcd S len λA outer s H vs Q E hr hsp=>?_;obtain⟨t,h,q⟩:=hbody cdv A outer s H vs Q E hr hsp;exact⟨t,h.nox,q⟩
theorem yh.binds {x qual:Str}{st:Stmt}{f:Addr}{fd:FuncData}{ps:List Str}(F:yh K x qual st f fd)
  (h:∀(kV doc pm:Value) (an:Option Addr) (cdv ct:Value) (us:List Value),us.length=ps.length->bindArgs (fnOf x qual (gD st) (gk st) (bV st) .none kV doc pm an cdv ct) ⟨us,[]⟩=pure (ps.zip us)):Binds K fd ps []:=by
 obtain⟨oc,od,kV,doc,pm,an,cdv,ct,osl,rfl,lk,hcd⟩:=F.ex;exact .all (h kV doc pm an cdv ct)
theorem Gj {x qual:Str}{st:Stmt}{f:Addr}{oc:Value}{od an:Option Addr}{osl:Array (Option Value)}{kV doc pm cdv ct:Value}(l:K.lookup f=some ⟨oc,od,.func (fnOf x qual (gD st) (gk st) (bV st) .none kV doc pm an cdv ct),osl⟩)
  (c:codeIn K cdv qual=true) (k:keepIn K (.ref f)=true):yh K x qual st f (fnOf x qual (gD st) (gk st) (bV st) .none kV doc pm an cdv ct):=⟨⟨oc,od,kV,doc,pm,an,cdv,ct,osl,rfl,l,c⟩,k⟩
end
theorem cD {n:Nat}(h:n<=1000):n<sizeLine:=lt_of_le_of_lt h (by decide)
section
variable {X:Cx}
theorem pv (i:Nat){x:Str}{pos:Pos}(hN:X.N[i]? =some x:=by rfl)(hv:YQ X.env.scope x:=by first|exact Or.inl rfl|exact Or.inr (Or.inl rfl)|exact Or.inr (Or.inr rfl))(hd:(x == ("__debug__":Str))=false:=by decide)
  (hcd:(x == ("__classdict__":Str))=false:=by decide):PE X (.Name x pos) (qT i):=pe_var hN hv hd hcd
end
def aA (H Z:Hp):Prop:=∀b o,H b=some o->Z b=some o
theorem aA.refl (H:Hp):aA H H:=λz z h=>h
theorem aA.trans {H H1 H2:Hp}(a:aA H H1)(b:aA H1 H2):aA H H2:=λc o h=>b c o (a c o h)
theorem aA.free {H Z:Hp}(e:aA H Z){l:Addr}(h:Z l=Option.none):H l=Option.none:=by
 cases q:H l with
 |none=>rfl
 |some o=>
  rw[e l o q] at h;cases h
theorem aA.seq {K:Frag}{H Z:Hp}{a:Addr}{xs:List V}(e:aA H Z)(h:aF K H a xs):aF K Z a xs:=by
 rcases h with(h|⟨o,h⟩)|h
 ·exact .inl (.inl (e _ _ h))
 ·exact .inl (.inr ⟨o,e _ _ h⟩)
 ·exact .inr h
section
variable {κ:Type}[DecidableEq κ]
end
theorem at_of {xs:List V}{z:Int}{j:Nat}{v:V}(e:z=(j:Int))(h:xs[j]? =some v):vX xs z=some v:=by
 rw[e];exact dU h
end L2
section
namespace L2
open PySem.W (WData Codec OpenSpec Well WellAll ReadsW ReadsAllW)
mutual
inductive Dw (K:Frag)(H:Hp):V->WData->Prop
 |non:Dw K H .non .none
 |bl (b:Bool):Dw K H (.bl b) (.bool b)
 |int (i:Int):Dw K H (.int i) (.int i)
 |str (x:Str):Dw K H (.str x) (.str x)
 |Fy (b:Array UInt8):Dw K H (.Fy b) (.bytes b.toList)
 |aB {a:Addr}{xs:List V}{ds:List WData}:aF K H a xs->nO K H xs ds->Dw K H (.ref a) (.list ds)
 |tup {a:Addr}{xs:List V}{ds:List WData}:bR K H a xs->nO K H xs ds->Dw K H (.ref a) (.tuple ds)
inductive nO (K:Frag)(H:Hp):List V->List WData->Prop
 |nil:nO K H [] []
 |cons {v:V}{vs:List V}{d:WData}{ds:List WData}:Dw K H v d->nO K H vs ds->nO K H (v::vs) (d::ds)
end
theorem Ze {K:Frag}{H:Hp}:∀ns:List Int,nO K H (ns.map V.int) (ns.map WData.int)
 |[]=>.nil
 |n::r=>.cons (.int n) (Ze r)
theorem Zf {K:Frag}{H:Hp}:∀(ns:List Int) (xs:List V),nO K H xs (ns.map WData.int)->xs=ns.map V.int
 |[],xs,h=>by
  cases h;rfl
 |n::r,xs,h=>by
  cases h with
  |cons h1 h2=>
   cases h1;rw[Zf r _ h2]<;>rfl
section
variable {P:Program}{w:World}{K:Frag}{H:Hp}{h:Heap}{R:WRecords}{cl:Str->Option Addr}
theorem sqL_at {a:Addr}{xs:List V}(hok:ji P w H h)(KX:K.In h)(q:aF K H a xs):∃(its:List Value) (o:Obj) (n:Nat),Vals xs its/\h.get? a=some o/\o.cls=.type "list"/\o.data=.seq its.toArray n:=by
 rcases q with q|⟨o,its,n,e,hc,_,hd,_,hv⟩
 ·obtain⟨_,its,n,hv,e⟩:=(show iH P w H h a (.aB xs) from q.ok hok);exact⟨its,_,n,hv,e,rfl,rfl⟩
 ·exact⟨its.toList,o,n,hv,KX _ _ e,hc,by simp[hd]⟩
theorem sqT_at {a:Addr}{xs:List V}(hok:ji P w H h)(KX:K.In h)(q:bR K H a xs):∃(its:List Value) (o:Obj) (n:Nat),Vals xs its/\h.get? a=some o/\o.cls=.type "tuple"/\o.data=.seq its.toArray n:=by
 rcases q with q|⟨o,its,n,e,hc,hd,_,hv⟩
 ·obtain⟨_,its,hv,o,e,hc,n,hd⟩:=(show iH P w H h a (.tup xs) from q.ok hok);exact⟨its,o,n,hv,e,hc,hd⟩
 ·exact⟨its.toList,o,n,hv,KX _ _ e,hc,by simp[hd]⟩
mutual
theorem Dw.reads (hok:ji P w H h)(KX:K.In h):∀(d:WData) (v:V) (u:Value),Dw K H v d->RelV v u->∃as,ReadsW R cl h u d as
 | .none,_,_,x,r=>by
  cases x;cases r;exact⟨_,ReadsW.none⟩
 | .bool b,_,_,x,r=>by
  cases x;cases r;exact⟨_,ReadsW.bool b⟩
 | .int i,_,_,x,r=>by
  cases x;obtain⟨t,rfl⟩:=r;exact⟨_,ReadsW.int i t⟩
 | .str s,_,_,x,r=>by
  cases x;obtain⟨t,rfl⟩:=r;exact⟨_,ReadsW.str s t⟩
 | .bytes b,_,_,x,r=>by
  cases x;obtain⟨t,rfl⟩:=r;exact⟨_,ReadsW.bytes _ t⟩
 | .list ds,_,_,x,r=>by
  cases x with
  |aB hs ha=>
   cases r;obtain⟨its,o,n,rv,ho,hc,hd⟩:=sqL_at hok KX hs;obtain⟨as,hr⟩:=Dw.readsAll hok KX ds _ its ha rv;exact⟨_,ReadsW.list ho hc hd hr⟩
 | .tuple ds,_,_,x,r=>by
  cases x with
  |tup hs ha=>
   cases r;obtain⟨its,o,n,rv,ho,hc,hd⟩:=sqT_at hok KX hs;obtain⟨as,hr⟩:=Dw.readsAll hok KX ds _ its ha rv;exact⟨_,ReadsW.tuple ho hc hd hr⟩
 | .float _,_,_,x,_=>by cases x
 | .dict _,_,_,x,_=>by cases x
 | .bytearray _,_,_,x,_=>by cases x
 | .set _,_,_,x,_=>by cases x
 | .frozenset _,_,_,x,_=>by cases x
 | .obj _ _,_,_,x,_=>by cases x
theorem Dw.readsAll (hok:ji P w H h)(KX:K.In h):∀(ds:List WData) (vs:List V) (us:List Value),nO K H vs ds->Vals vs us->∃as,ReadsAllW R cl h us ds as
 |[],_,_,x,r=>by
  cases x;cases r;exact⟨_,ReadsAllW.nil⟩
 |d::ds,_,_,x,r=>by
  cases x with
  |cons h1 h2=>
   cases r with
   |cons r1 r2=>
    obtain⟨as,q1⟩:=Dw.reads hok KX d _ _ h1 r1;obtain⟨bs,q2⟩:=Dw.readsAll hok KX ds _ _ h2 r2;exact⟨_,ReadsAllW.cons q1 q2⟩
end
end
mutual
def yj:WData->Bool
 | .none=>true
 | .bool _=>true
 | .int _=>true
 | .str _=>true
 | .bytes _=>true
 | .list xs=>uz xs
 | .tuple xs=>uz xs
 |_=>false
def uz:List WData->Bool
 |[]=>true
 |x::r=>yj x&&uz r
end
theorem Vv {α:Type}{f:α->WData}(h:∀a,yj (f a)=true):∀l:List α,uz (l.map f)=true
 |[]=>rfl
 |x::r=>by
  show(yj (f x)&&uz (r.map f))=true;rw[h x,Vv h r]<;>rfl
theorem sV:∀(c:Codec) (a:c.denote),yj (c.enc a)=true
 | .unit,_=>rfl
 | .bool,_=>rfl
 | .int _ _,_=>rfl
 | .nat _ _,_=>rfl
 | .u8,_=>rfl
 | .bytes _ _,_=>rfl
 | .text _ _ _ _,_=>rfl
 | .list _ _ c,a=>Vv (λx=>sV c x) a
 | .pair c d,a=>by
  show(yj (c.enc a.1)&&(yj (d.enc a.2)&&true))=true;rw[sV c a.1,sV d a.2]<;>rfl
 | .triple c d e,a=>by
  show(yj (c.enc a.1)&&(yj (d.enc a.2.1)&&(yj (e.enc a.2.2)&&true)))=true;rw[sV c a.1,sV d a.2.1,sV e a.2.2]<;>rfl
 | .option c,none=>rfl
 | .option c,some x=>sV c x
theorem Rt:∀(cs:List Codec) (a:Codec.denoteAll cs),uz (Codec.encAll cs a)=true
 |[],_=>rfl
 |c::cs,a=>by
  show(yj (c.enc a.1)&&uz (Codec.encAll cs a.2))=true;rw[sV c a.1,Rt cs a.2]<;>rfl
theorem Cj:∀{xs:List WData}{d:WData},d∈xs->d.weight<=WData.weightAll xs
 |[],d,h=>absurd h (by simp)
 |x::r,d,h=>by
  show d.weight<=x.weight+1+WData.weightAll r;rcases mem_cons.mp h with e|m
  ·rw[e];lia
  ·have z:=Cj m;lia
noncomputable def toV:Value->V
 | .none=>.non
 | .bool b=>.bl b
 | .int i _=>.int i
 | .str x _=>.str x
 | .bytes b _=>.Fy b
 | .ref a=>.ref a
 |_=>.non
def z6 (A:List Addr):Value->Prop
 | .none=>True
 | .bool _=>True
 | .int _ _=>True
 | .str _ _=>True
 | .bytes _ _=>True
 | .ref a=>a∈A
 |_=>False
theorem z6.mono {A B:List Addr}(h:∀a∈A,a∈B):∀{u:Value},z6 A u->z6 B u:=λ{u} x=>by
 cases u with
 |ref a=>exact h a x
 |none=>trivial
 |bool b=>trivial
 |int i t=>trivial
 |str s t=>trivial
 |bytes b t=>trivial
 |_=>exact False.elim x
theorem relV_toV {A:List Addr}{u:Value}(x:z6 A u):RelV (toV u) u:=by
 cases u with
 |ref a=>rfl
 |none=>rfl
 |bool b=>rfl
 |int i t=>exact⟨t,rfl⟩
 |str s t=>exact⟨t,rfl⟩
 |bytes b t=>exact⟨t,rfl⟩
 |_=>exact False.elim x
theorem rm {A:List Addr}:∀{vs:List Value},(∀u∈vs,z6 A u)->Vals (vs.map toV) vs
 |[],_=>.nil
 |u::r,h=>.cons (relV_toV (h u (mem_cons_self ..))) (rm λx hx=>h x (mem_cons_of_mem _ hx))
def nP (h:Heap)(A:List Addr)(a:Addr):Prop:=∃vs:List Value,vs.length<=sizeLine/\(∀u∈vs,z6 A u)/\
 (h.get? a=some {cls:=.type "list",data:=.seq vs.toArray}\/h.get? a=some {cls:=.type "tuple",data:=.seq vs.toArray})
theorem nP.mono {h:Heap}{A B:List Addr}{a:Addr}(k:∀a∈A,a∈B)(x:nP h A a):nP h B a:=by
 obtain⟨vs,h1,h2,h3⟩:=x;exact⟨vs,h1,λu hu=>(h2 u hu).mono k,h3⟩
theorem rZ {P:Params}{h:Heap}:∀{vs:List Value}{ds:List WData},WellAll P h vs ds->vs.length=ds.length
 |_,_,.nil=>rfl
 |_,_,.cons _ b=>by
  show _+1=_+1;rw[rZ b]
theorem Ru {P:Params}{h:Heap}{v:Value}{ds:List WData}(x:Well P h v (.list ds)):∃(a:Addr) (vs:List Value),v=.ref a/\h.get? a=some {cls:=.type "list",data:=.seq vs.toArray}/\WellAll P h vs ds:=by
 cases x with
 |list ho hall=>exact⟨_,_,rfl,ho,hall⟩
theorem Ni {P:Params}{h:Heap}{v:Value}{ds:List WData}(x:Well P h v (.tuple ds)):∃(a:Addr) (vs:List Value),v=.ref a/\h.get? a=some {cls:=.type "tuple",data:=.seq vs.toArray}/\WellAll P h vs ds:=by
 cases x with
 |tuple ho hall=>exact⟨_,_,rfl,ho,hall⟩
theorem Rv {P:Params}{h:Heap}{us:List Value}{d:WData}{ds:List WData}(x:WellAll P h us (d::ds)):∃(v:Value) (vs:List Value),us=v::vs/\Well P h v d/\WellAll P h vs ds:=by
 cases x with
 |cons a b=>exact⟨_,_,rfl,a,b⟩
theorem Zg {n:Nat}(h:n<=1048576):n<=sizeLine:=le_trans h (by decide)
section
variable {P:Params}{h:Heap}
mutual
theorem area_one:∀(d:WData) (v:Value),Well P h v d->yj d=true->d.weight<=1048576->∃A:List Addr,z6 A v/\∀a∈A,nP h A a
 | .none,_,x,_,_=>by
  cases x;exact⟨[],trivial,λa m=>absurd m (by simp)⟩
 | .bool b,_,x,_,_=>by
  cases x;exact⟨[],trivial,λa m=>absurd m (by simp)⟩
 | .int i,_,x,_,_=>by
  cases x;exact⟨[],trivial,λa m=>absurd m (by simp)⟩
 | .str s,_,x,_,_=>by
  cases x;exact⟨[],trivial,λa m=>absurd m (by simp)⟩
 | .bytes b,_,x,_,_=>by
  cases x;exact⟨[],trivial,λa m=>absurd m (by simp)⟩
 | .list ds,_,x,p,z=>by
  obtain⟨a,vs,rfl,ho,hall⟩:=Ru x;have z2:WData.weightAll ds<=1048576:=z;obtain⟨A,h1,h2⟩:=Ck ds _ hall p λd hd=>le_trans (Cj hd) z2;have k:∀b∈A,b∈a::A:=λb hb=>mem_cons_of_mem _ hb;refine⟨a::A,mem_cons_self ..,λb hb=>?_⟩;rcases mem_cons.mp hb with e|m
  ·rw[e];exact⟨vs,Zg (by rw[rZ hall];exact le_trans (PySem.W.length_le_weightAllW ds) z2),λu hu=>(h1 u hu).mono k,.inl ho⟩
  ·exact(h2 b m).mono k
 | .tuple ds,_,x,p,z=>by
  obtain⟨a,vs,rfl,ho,hall⟩:=Ni x;have z2:WData.weightAll ds<=1048576:=z;obtain⟨A,h1,h2⟩:=Ck ds _ hall p λd hd=>le_trans (Cj hd) z2;have k:∀b∈A,b∈a::A:=λb hb=>mem_cons_of_mem _ hb;refine⟨a::A,mem_cons_self ..,λb hb=>?_⟩;rcases mem_cons.mp hb with e|m
  ·rw[e];exact⟨vs,Zg (by rw[rZ hall];exact le_trans (PySem.W.length_le_weightAllW ds) z2),λu hu=>(h1 u hu).mono k,.inr ho⟩
  ·exact(h2 b m).mono k
 | .float _,_,_,p,_=>noConfusion (show false=true from p)
 | .dict _,_,_,p,_=>noConfusion (show false=true from p)
 | .bytearray _,_,_,p,_=>noConfusion (show false=true from p)
 | .set _,_,_,p,_=>noConfusion (show false=true from p)
 | .frozenset _,_,_,p,_=>noConfusion (show false=true from p)
 | .obj _ _,_,_,p,_=>noConfusion (show false=true from p)
theorem Ck:∀(ds:List WData) (vs:List Value),WellAll P h vs ds->uz ds=true->(∀d∈ds,d.weight<=1048576)->∃A:List Addr,(∀u∈vs,z6 A u)/\∀a∈A,nP h A a
 |[],_,x,_,_=>by
  cases x;exact⟨[],λu m=>absurd m (by simp),λa m=>absurd m (by simp)⟩
 |d::ds,_,x,p,z=>by
  obtain⟨v,vs,rfl,x1,x2⟩:=Rv x;have q:yj d=true/\uz ds=true:=Bool.and_eq_true_iff.mp p;obtain⟨A,a1,a2⟩:=area_one d v x1 q.1 (z d (mem_cons_self ..));obtain⟨B,b1,b2⟩:=Ck ds vs x2 q.2 λe he=>z e (mem_cons_of_mem _ he);have kA:∀b∈A,b∈A++B:=λb hb=>mem_append.mpr (.inl hb);have kB:∀b∈B,b∈A++B:=λb hb=>mem_append.mpr (.inr hb);refine⟨A++B,λu hu=>?_,λb hb=>?_⟩
  ·rcases mem_cons.mp hu with e|m
   ·rw[e];exact a1.mono kA
   ·exact(b1 u m).mono kB
  ·rcases mem_append.mp hb with m|m
   ·exact(a2 b m).mono kA
   ·exact(b2 b m).mono kB
end
end
noncomputable def hoOf (o:Obj):Option HO:=match o.data with
 | .seq vs _=>if (o.cls == Value.type "list")=true then some (.j4 o (.aB (vs.toList.map toV))) else some (.j4 o (.tup (vs.toList.map toV)))
 |_=>none
noncomputable def jR (K:Frag)(h:Heap)(A:List Addr):Hp:=λb=>if b∈A then(if (K.lookup b).isNone=true then(h.get? b).bind hoOf else none) else none
def Jk (H:Hp):Prop:=∀b,H b=none\/∃o u,H b=some (.j4 o u)
theorem Vw (vs:List Value):hoOf {cls:=.type "list",data:=.seq vs.toArray}=some (.j4 {cls:=.type "list",data:=.seq vs.toArray} (.aB (vs.map toV))):=by
 show(if (Value.type "list" == Value.type "list")=true then some (HO.j4 {cls:=.type "list",data:=.seq vs.toArray} (.aB (vs.toArray.toList.map toV))) else some (HO.j4 {cls:=.type "list",data:=.seq vs.toArray} (.tup (vs.toArray.toList.map toV))))=_;rw[if_pos (beq_self_eq_true _)]
theorem Vx (vs:List Value):hoOf {cls:=.type "tuple",data:=.seq vs.toArray}=some (.j4 {cls:=.type "tuple",data:=.seq vs.toArray} (.tup (vs.map toV))):=by
 show(if (Value.type "tuple" == Value.type "list")=true then some (HO.j4 {cls:=.type "tuple",data:=.seq vs.toArray} (.aB (vs.toArray.toList.map toV))) else some (HO.j4 {cls:=.type "tuple",data:=.seq vs.toArray} (.tup (vs.toArray.toList.map toV))))=_;rw[if_neg (by decide)]
section
variable {P:Program}{w:World}{K:Frag}{h:Heap}{A:List Addr}
theorem Jl {b:Addr}{o:Obj}(hb:b∈A)(O:K.lookup b=none)(e:h.get? b=some o):jR K h A b=hoOf o:=by
 unfold jR;rw[if_pos hb,O,if_pos (show(none:Option Obj).isNone=true from rfl),e]<;>rfl
theorem of_argH {b:Addr}{u:HO}(q:jR K h A b=some u):b∈A/\K.lookup b=none:=by
 unfold jR at q;by_cases hb:b∈A
 ·rw[if_pos hb] at q;cases O:K.lookup b with
  |none=>exact⟨hb,rfl⟩
  |some o=>
   rw[O,if_neg (by simp)] at q;cases q
 ·rw[if_neg hb] at q;cases q
theorem Jm (ar:∀a∈A,nP h A a){b:Addr}{u:HO}(q:jR K h A b=some u):K.lookup b=none/\∃vs:List Value,vs.length<=sizeLine/\(∀u∈vs,z6 A u)/\
  ((h.get? b=some {cls:=.type "list",data:=.seq vs.toArray}/\u=.j4 {cls:=.type "list",data:=.seq vs.toArray} (.aB (vs.map toV)))\/ (h.get? b=some {cls:=.type "tuple",data:=.seq vs.toArray}/\u=.j4 {cls:=.type "tuple",data:=.seq vs.toArray} (.tup (vs.map toV)))):=by
 obtain⟨hb,O⟩:=of_argH q;obtain⟨vs,h1,h2,h3⟩:=ar b hb;refine⟨O,vs,h1,h2,?_⟩;rcases h3 with e|e
 ·rw[Jl hb O e,Vw] at q;exact .inl ⟨e,(Option.some.inj q).symm⟩
 ·rw[Jl hb O e,Vx] at q;exact .inr ⟨e,(Option.some.inj q).symm⟩
theorem argH_only (ar:∀a∈A,nP h A a):Jk (jR K h A):=λb=>by
 cases q:jR K h A b with
 |none=>exact .inl rfl
 |some u=>
  obtain⟨_,vs,_,_,⟨_,e⟩|⟨_,e⟩⟩:=Jm ar q
  ·exact .inr ⟨_,_,by rw[e]⟩
  ·exact .inr ⟨_,_,by rw[e]⟩
theorem argH_ok (ar:∀a∈A,nP h A a):ji P w (jR K h A) h:=λb u q=>by
 obtain⟨_,vs,h1,h2,⟨e,rfl⟩|⟨e,rfl⟩⟩:=Jm ar q
 ·exact⟨e,by rw[length_map];exact h1,vs,_,rm h2,e⟩
 ·exact⟨e,by rw[length_map];exact h1,vs,rm h2,_,e,rfl,_,rfl⟩
theorem Jo {c c':Value}{vs us:List Value}(e:(some {cls:=c,data:=.seq vs.toArray}:Option Obj)=some {cls:=c',data:=.seq us.toArray}):c=c'/\vs=us:=by
 have e1:=Option.some.inj e;have e2:c=c':=congrArg Obj.cls e1;have e3:Data.seq vs.toArray=Data.seq us.toArray:=congrArg Obj.data e1;injection e3 with e4
 refine⟨e2,?_⟩;have e5:=congrArg Array.toList e4;simpa using e5
theorem argL (KX:K.In h)(ar:∀a∈A,nP h A a){a:Addr}{vs:List Value}(ha:a∈A)(e:h.get? a=some {cls:=.type "list",data:=.seq vs.toArray}):(∀u∈vs,z6 A u)/\aF K (jR K h A) a (vs.map toV):=by
 obtain⟨us,h1,h2,h3⟩:=ar a ha;have hu:us=vs:=by
  rcases h3 with q|q
  ·rw[e] at q;exact(Jo q).2.symm
  ·rw[e] at q;exact absurd (Value.type.inj (Jo q).1) (by decide)
 subst hu;refine⟨h2,?_⟩;cases O:K.lookup a with
 |none=>exact .inl (.inr ⟨_,by rw[Jl ha O e,Vw]⟩)
 |some o=>
  have e2:=KX a o O;rw[e] at e2;obtain rfl:=Option.some.inj e2;exact .inr ⟨_,us.toArray,_,O,rfl,rfl,rfl,by rw[size_toArray];exact h1,by simpa using rm h2⟩
theorem argT (KX:K.In h)(ar:∀a∈A,nP h A a){a:Addr}{vs:List Value}(ha:a∈A)(e:h.get? a=some {cls:=.type "tuple",data:=.seq vs.toArray}):(∀u∈vs,z6 A u)/\bR K (jR K h A) a (vs.map toV):=by
 obtain⟨us,h1,h2,h3⟩:=ar a ha;have hu:us=vs:=by
  rcases h3 with q|q
  ·rw[e] at q;exact absurd (Value.type.inj (Jo q).1) (by decide)
  ·rw[e] at q;exact(Jo q).2.symm
 subst hu;refine⟨h2,?_⟩;cases O:K.lookup a with
 |none=>exact .inl (.inr ⟨_,by rw[Jl ha O e,Vx]⟩)
 |some o=>
  have e2:=KX a o O;rw[e] at e2;obtain rfl:=Option.some.inj e2;exact .inr ⟨_,us.toArray,_,O,rfl,rfl,by rw[size_toArray];exact h1,by simpa using rm h2⟩
mutual
theorem dw_one {Pm:Params}(KX:K.In h)(ar:∀a∈A,nP h A a):∀(d:WData) (v:Value),Well Pm h v d->yj d=true->z6 A v->Dw K (jR K h A) (toV v) d
 | .none,_,x,_,_=>by
  cases x;exact .non
 | .bool b,_,x,_,_=>by
  cases x;exact .bl b
 | .int i,_,x,_,_=>by
  cases x;exact .int i
 | .str s,_,x,_,_=>by
  cases x;exact .str s
 | .bytes b,_,x,_,_=>by
  cases x;have z:=Dw.Fy (K:=K) (H:=jR K h A) b.toArray;exact z
 | .list ds,_,x,p,hu=>by
  obtain⟨a,vs,rfl,ho,hall⟩:=Ru x;obtain⟨h2,hs⟩:=argL KX ar hu ho;exact .aB hs (Nj KX ar ds _ hall p h2)
 | .tuple ds,_,x,p,hu=>by
  obtain⟨a,vs,rfl,ho,hall⟩:=Ni x;obtain⟨h2,hs⟩:=argT KX ar hu ho;exact .tup hs (Nj KX ar ds _ hall p h2)
 | .float _,_,_,p,_=>noConfusion (show false=true from p)
 | .dict _,_,_,p,_=>noConfusion (show false=true from p)
 | .bytearray _,_,_,p,_=>noConfusion (show false=true from p)
 | .set _,_,_,p,_=>noConfusion (show false=true from p)
 | .frozenset _,_,_,p,_=>noConfusion (show false=true from p)
 | .obj _ _,_,_,p,_=>noConfusion (show false=true from p)
theorem Nj {Pm:Params}(KX:K.In h)(ar:∀a∈A,nP h A a):∀(ds:List WData) (vs:List Value),WellAll Pm h vs ds->uz ds=true->(∀u∈vs,z6 A u)->nO K (jR K h A) (vs.map toV) ds
 |[],_,x,_,_=>by
  cases x;exact .nil
 |d::ds,_,x,p,hu=>by
  obtain⟨v,vs,rfl,x1,x2⟩:=Rv x;have q:yj d=true/\uz ds=true:=Bool.and_eq_true_iff.mp p;exact .cons (dw_one KX ar d v x1 q.1 (hu _ (mem_cons_self ..))) (Nj KX ar ds vs x2 q.2 λu m=>hu u (mem_cons_of_mem _ m))
end
end
theorem spec_call {P:Program}{w:World}{K:Frag}{mg mb:Str->Option Value}{CX:yd}{k:Nat}{fa:Addr}{fd:FuncData}{ps:List Str}{sp:Sp}{s₁:Shared}{vals:List Value}{ds:List WData}{R:WRecords}{cl:Str->Option Addr}{d0:WData}
  (KX:K.In s₁.heap) (hns:s₁.heap.Ns mainGlobals mg) (hb:s₁.heap.Ns builtinsNs mb) (hbb:∀x:Str,x≠"__name__"->mb x=bootBuiltins x) (hlim:s₁.heap.NoLimit) (hg:s₁.gens= #[])
  (hwl:WellAll w.params s₁.heap vals ds) (hpl:uz ds=true) (hwt:∀d∈ds,d.weight<=1048576) (hr:cW k callerA)
  (F:∀aq:Heap,K.In aq->aq.Ns mainGlobals mg->gJ P w K mg aq CX k fa fd ps sp) (hbind:∀(s:Shared) (us:List Value),us.length=ps.length->BindsTo s fd ⟨us,[]⟩ (ps.zip us)) (hlen:ds.length=ps.length)
  (hsp:∀(H:Hp) (xs:List V),Jk H->nO K H xs ds->sp xs H (λv Z=>Dw K Z v d0) λy y y=>False)
  (hCX:∀H e s',CX [] H s₁ (λy y y=>False) e s'->False):
  codeAny (model P w) callerA (.call (.ref fa) ⟨vals,[]⟩) (λr s'=>∃u as,r=.ok (.ret u)/\ReadsW R cl s'.heap u d0 as/\OldK s₁.heap s'.heap/\s'.os=s₁.os/\AllBare s'.gens) s₁:=by
 obtain⟨A,ho,ar⟩:=Ck ds vals hwl hpl hwt;have hO:Jk (jR K s₁.heap A):=argH_only ar;have hok:ji P w (jR K s₁.heap A) s₁.heap:=argH_ok ar;have hS:=Nj KX ar ds vals hwl hpl ho;have hV:=rm ho;have hK:∀b u,jR K s₁.heap A b=some u->K.lookup b=none:=λb u q=>(Jm ar q).1;have Y5:∀{b:Addr}{o:Obj}{es:Array DictEntry}{ep:Nat},s₁.heap.get? b=some o->o.data=.dict es ep->jR K s₁.heap A b=none:=λ{b o es ep} e d=>by
  cases q:jR K s₁.heap A b with
  |none=>rfl
  |some u=>
   obtain⟨_,vs,_,_,⟨e2,_⟩|⟨e2,_⟩⟩:=Jm ar q
   ·rw[e2] at e;cases e;have d':Data.seq vs.toArray _=Data.dict es ep:=d;cases d'
   ·rw[e2] at e;cases e;have d':Data.seq vs.toArray _=Data.dict es ep:=d;cases d'
 generalize jR K s₁.heap A=H at hO hok hS hK Y5;have Zh:∀{b:Addr}{o:Obj},s₁.heap.get? b=some o->H b=none->(BZ s₁.heap H).get? b=some o:=λe n=>hidT_get e n;have nsK:∀{b:Addr}{m:Str->Option Value},s₁.heap.Ns b m->(BZ s₁.heap H).Ns b m:=λ{b m} ⟨o,es,ep,e,d,r⟩=>⟨o,es,ep,Zh e (Y5 e d),d,r⟩;have nK:∀b o,K.lookup b=some o->H b=none:=λb o e=>by
  cases q:H b with
  |none=>rfl
  |some u=>
   rw[hK b u q] at e;cases e
 have hKb:K.In (BZ s₁.heap H):=λb o e=>Zh (KX b o e) (nK b o e);have hM:Mod K mg (BZ s₁.heap H):=⟨hKb,nsK hns,⟨mb,nsK hb,hbb⟩,let ⟨mc,h1,h2⟩:=hlim;⟨mc,nsK h1,h2⟩⟩;have e0:zp P w K mg (BZ s₁.heap H) callerA [] s₁ H:=⟨rfl,hM,λb o e=>of_hidT e,le_of_eq (hidT_size _ _),trivial,λb hb=>absurd (show b∈([]:List Addr) from hb) (by simp),hok,.of_eq hg⟩;have hl:vals.length=ps.length:=by rw[rZ hwl];exact hlen
 refine codeAny_mono ((F _ hKb (nsK hns)).run callerA [] s₁ H ⟨vals,[]⟩ vals (vals.map toV) _ _ hr e0 (hbind s₁ vals hl) hV (hsp H _ hO hS)) λr s' x=>?_;cases r with
 |error e=>exact(hCX H e s' x).elim
 |ok fl=>
  cases fl with
  |next=>exact False.elim x
  |brk=>exact False.elim x
  |cont=>exact False.elim x
  |ret u=>
   obtain⟨v,Z,os,bare,un,hok',r',q⟩:=x;have kept:∀b o,s₁.heap.get? b=some o->s'.heap.get? b=some o:=λb o e=>by
    cases q2:H b with
    |none=>exact un.keep b o e q2 (by intro z;exact absurd (show b∈([]:List Addr) from z) (by simp)) (by simp)
    |some u2=>
     rcases hO b with z|⟨ob,u3,z⟩
     ·rw[q2] at z;cases z
     ·have z2:=un.BX b ob _ z;obtain⟨e1,_⟩:=hok b _ z;obtain⟨e2,_⟩:=hok' b _ z2;rw[e] at e1;cases e1;exact e2
   have KX':K.In s'.heap:=λb o e=>kept b o (KX b o e);obtain⟨as,hrd⟩:=Dw.reads (R:=R) (cl:=cl) hok' KX' d0 v u q r';exact⟨u,as,rfl,hrd,OldK.of_keep kept,os,bare⟩
theorem Qc {ds:List WData}(h:WData.layableAll ds=true):∀d∈ds,d.weight<=1048576:=λd hd=>
 (PySem.W.layableW_iff.mp (all_eq_true.mp h d hd)).2.2
theorem Nk:∀(cs:List Codec) (a:Codec.denoteAll cs),(Codec.encAll cs a).length=cs.length
 |[],_=>rfl
 |c::cs,a=>by
  show(Codec.encAll cs a.2).length+1=cs.length+1;rw[Nk cs a.2]
theorem walk_spec {r:OpenSpec}{k:Nat}{q:Program}{loose:List Str}{XP:(Str->Option Value)->Heap->Prop}{YP:World->Heap->Prop}{d:DefRec}{K:Params->Frag}{CX:World->yd}{ps:List Str}{sp:World->Sp}
  (hwell:r.wellSaid=true) (hdf:d.params.defaults=[]) (hlen:r.args.length=ps.length) (hr:cW k callerA)
  (hY:∀(w:World) (h:Heap),YP w h->(K w.params).In h)
  (F:∀(w:World) (mg:Str->Option Value) (fa:Addr) (h:Heap),YP w h->(K w.params).In h->h.Ns mainGlobals mg->mg d.name=some (.ref fa)-> ∃fd:FuncData,(∀(s:Shared) (us:List Value),us.length=ps.length->BindsTo s fd ⟨us,[]⟩ (ps.zip us))/\ ∀aq:Heap,(K w.params).In aq->aq.Ns mainGlobals mg->gJ r.prog w (K w.params) mg aq (CX w) k fa fd ps (sp w))
  (hsp:∀(w:World) (H:Hp) (xs:List V) (a:Codec.denoteAll r.args),Jk H->Codec.withinAll r.args a=true->Codec.app r.args r.asked a=true->nO (K w.params) H xs (Codec.encAll r.args a)-> sp w xs H (λv Z=>Dw (K w.params) Z v (r.ret.enc (Codec.app r.args r.f a))) λy y y=>False)
  (hCX:∀(w:World) (H:Hp) (s:Shared) (e:Value) (s':Shared),CX w [] H s (λy y y=>False) e s'->False):
  WalkOS q loose XP YP r d [] (λf vs=>PySem.call f vs):=by
 intro w s_0 s₁ mg mb G Y fa o pm cd doc dV kV ho hd hcd hD hmg hg args vals as hpre hlay hrd hwl hlo;obtain⟨a,e1,e2⟩:=PySem.W.os_pre_some hpre;obtain⟨e3,hwi⟩:=Codec.encAll_of_decAll r.args args a e1;subst e3;have KX:=hY w _ Y;obtain⟨fd,hb,hF⟩:=F w mg fa _ Y KX G.T.g hmg;refine PySem.W.enter_call (codeAny_mono (spec_call (R:=[]) (cl:=classAt s_0.heap) (d0:=r.ret.enc (Codec.app r.args r.f a)) KX G.T.g G.T.b G.T.builtins G.T.nolimit hg hwl (Rt _ _) (Qc hlay) hr hF hb (by rw[Nk];exact hlen)
  (λH xs hO hS=>hsp w H xs a hO hwi e2 hS) λH e s'=>hCX w H s₁ e s') λr' s' hq=>?_)
 obtain⟨u,as',rfl,h1,h2,h3,h4⟩:=hq;exact⟨.inl ⟨u,_,as',rfl,λy=>rfl,h1,(OpenSpec.post_iff hwell hwi _ _).mpr rfl,λz=>noConfusion (show false=true from z)⟩,h2,h3,h4⟩
theorem walk_specK {r:OpenSpec}{k:Nat}{q:Program}{loose:List Str}{XP:(Str->Option Value)->Heap->Prop}{YP:World->Heap->Prop}{d:DefRec}{K:Params->Frag}{CX:yd}{ps:List Str}{sp:Frag->Sp}
  (hwell:r.wellSaid=true) (hdf:d.params.defaults=[]) (hlen:r.args.length=ps.length) (hr:cW k callerA)
  (hY:∀(w:World) (h:Heap),YP w h->(K w.params).In h)
  (F:∀(w:World) (mg:Str->Option Value) (fa:Addr) (h:Heap),YP w h->(K w.params).In h->h.Ns mainGlobals mg->mg d.name=some (.ref fa)-> ∃fd:FuncData,(∀(s:Shared) (us:List Value),us.length=ps.length->BindsTo s fd ⟨us,[]⟩ (ps.zip us))/\ ∀aq:Heap,(K w.params).In aq->aq.Ns mainGlobals mg->gJ r.prog w (K w.params) mg aq CX k fa fd ps (sp (K w.params)))
  (hsp:∀(K:Frag) (H:Hp) (xs:List V) (a:Codec.denoteAll r.args),Jk H->Codec.withinAll r.args a=true->Codec.app r.args r.asked a=true->nO K H xs (Codec.encAll r.args a)-> sp K xs H (λv Z=>Dw K Z v (r.ret.enc (Codec.app r.args r.f a))) λz z z=>False)
  (hCX:∀(H:Hp) (s:Shared) (e:Value) (s':Shared),CX [] H s (λz z z=>False) e s'->False):
  WalkOS q loose XP YP r d [] (λf vs=>PySem.call f vs):=
 walk_spec (K:=K) (CX:=λz=>CX) (sp:=λw=>sp (K w.params)) hwell hdf hlen hr hY F (λw H xs a h1 h2 h3 h4=>hsp (K w.params) H xs a h1 h2 h3 h4) λz H s e s'=>hCX H s e s'
end L2
end
namespace L2
def GI (mg:Str->Option Value)(x:Str)(n:Int):Prop:=∃t,mg x=some (.int n t)
section
variable {X:Cx}
theorem bL {x:Str}{n:Int}{pos:Pos}(hg:Gl X x)(hm:GI X.mg x n)(hd:(x == ("__debug__":Str))=false:=by decide):PE X (.Name x pos) (tC (.int n)):=by
 obtain⟨t,e⟩:=hm;exact YW hg e ⟨t,rfl⟩ hd
theorem jc {x:Str}{a:Addr}{pos:Pos}(hg:Gl X x)(hm:X.mg x=some (.ref a))(hd:(x == ("__debug__":Str))=false:=by decide):PE X (.Name x pos) (tC (.ref a)):=
 YW hg hm rfl hd
end
def UB (fd:FuncData)(ps:List Str):Prop:=∀(s:Shared) (us:List Value),us.length=ps.length->BindsTo s fd ⟨us,[]⟩ (ps.zip us)
theorem UB.binds {K:Frag}{fd:FuncData}{ps:List Str}(h:UB fd ps):Binds K fd ps []:=λs us z hl=>by
 rw[append_nil] at hl⊢;exact h s us hl
structure bI (P:Program)(w:World)(K:Frag)(mg:Str->Option Value)(aq:Heap)(x:Str)(f:Addr)(k:Nat)(ps:List Str)(sp:Sp):Prop where
 v8:mg x=some (.ref f)
 kp:keepIn K (.ref f)=true
 ex:∃fd,UB fd ps/\gJ P w K mg aq vZ k f fd ps sp
structure v9 (P:Program)(w:World)(K:Frag)(mg:Str->Option Value)(aq:Heap)(C:Addr)(m:Str)(k:Nat)(ps:List Str)(sp:Sp):Prop where
 cl:Cls K C
 ex:∃f fd,Meth K C m f/\Binds K fd ps []/\gJ P w K mg aq vZ k f fd ps sp
structure Nm (P:Program)(w:World)(K:Frag)(mg:Str->Option Value)(aq:Heap)(x:Str)(C:Addr)(k:Nat)(ps:List Str)(sp:Sp):Prop where
 v8:mg x=some (.ref C)
 ex:∃f fd,Mk K C f/\Binds K fd ps []/\gJ P w K mg aq vZ k f fd ps sp
structure FnT (K:Frag)(mg:Str->Option Value)(x:Str)(f:Addr)(st:Stmt)(ps:List Str):Prop where
 v8:mg x=some (.ref f)
 ex:∃fd,yh K x x st f fd/\UB fd ps
structure MtT (K:Frag)(C:Addr)(m qual:Str)(f:Addr)(st:Stmt)(ps:List Str):Prop where
 mt:Meth K C m f
 ex:∃fd,yh K m qual st f fd/\Binds K fd ps []
theorem FnT.bx {P:Program}{w:World}{K:Frag}{mg:Str->Option Value}{aq:Heap}{x:Str}{f:Addr}{k:Nat}{st:Stmt}{ps:List Str}{sp:Sp}(T:FnT K mg x f st ps)
  (h:∀fd,yh K x x st f fd->gJ P w K mg aq vZ k f fd ps sp):bI P w K mg aq x f k ps sp:=by
 obtain⟨fd,F,b⟩:=T.ex;exact⟨T.v8,F.kp,fd,b,h fd F⟩
theorem MtT.bx {P:Program}{w:World}{K:Frag}{mg:Str->Option Value}{aq:Heap}{C:Addr}{m qual:Str}{f:Addr}{k:Nat}{st:Stmt}{ps:List Str}{sp:Sp}(T:MtT K C m qual f st ps)(c:Cls K C)
  (h:∀fd,yh K m qual st f fd->gJ P w K mg aq vZ k f fd ps sp):v9 P w K mg aq C m k ps sp:=by
 obtain⟨fd,F,b⟩:=T.ex;exact⟨c,f,fd,T.mt,b,h fd F⟩
structure Np (K:Frag)(mg:Str->Option Value)(x:Str)(C:Addr)(qual:Str)(f:Addr)(st:Stmt)(ps:List Str):Prop where
 v8:mg x=some (.ref C)
 mk_:Mk K C f
 ex:∃fd,yh K "__init__" qual st f fd/\Binds K fd ps []
theorem Np.bx {P:Program}{w:World}{K:Frag}{mg:Str->Option Value}{aq:Heap}{x:Str}{C:Addr}{qual:Str}{f:Addr}{k:Nat}{st:Stmt}{ps:List Str}{sp:Sp}(T:Np K mg x C qual f st ps)
  (h:∀fd,yh K "__init__" qual st f fd->gJ P w K mg aq vZ k f fd ps sp):Nm P w K mg aq x C k ps sp:=by
 obtain⟨fd,F,b⟩:=T.ex;exact⟨T.v8,f,fd,T.mk_,b,h fd F⟩
def tCallD (sp:Sp)(t:TA):TE:=λσ H Q=>t σ H λvs H1=>sp vs H1 Q E0
def Vy (C:Addr)(m:Str)(sp:Sp)(ta:TE)(t:TA):TE:=λσ H Q=>ta σ H λx H1=>∃a dx fs,x=.ref a/\H1 a=some (.ins C dx fs)/\fs.lookup m=none/\
 t σ H1 λvs H2=>sp (x::vs) H2 Q E0
def Vz (C:Addr)(sp:Sp)(t:TA):TE:=λσ H Q=>t σ H λvs H1=>∀x dx,H1 x=none->H1 dx=none->dx≠x->
 sp (.ref x::vs) (aN (aN H1 dx (.own x)) x (.ins C dx [])) (λv H2=>v=.non/\Q (.ref x) H2) E0
def tCallV (X:Cx)(tf:TE)(t:TA):TE:=λσ H Q=>tf σ H λx H1=>∃f,x=.ref f/\keepIn X.K (.ref f)=true/\t σ H1 λvs H2=>
 ∃k fd ps sp,cW k X.A/\Binds X.K fd ps []/\gJ X.prog X.w X.K X.mg X.aq vZ k f fd ps sp/\sp vs H2 Q E0
section
variable {X:Cx}{k:Nat}{f C:Addr}{ps:List Str}{sp:Sp}{x m:Str}{p pos apos:Pos}{e o fe:Expr}{es:List Expr}{ta tf:TE}{t:TA}
theorem aD (D:bI X.prog X.w X.K X.mg X.aq x f k ps sp)(ha:PA X (e::es) t)(hr:cW k X.A:=by exact cW.mono (by assumption) (by decide))(hg:Gl X x:=by exact rfl)(hdb:(x == ("__debug__":Str))=false:=by decide)
  (he:starEach (e::es) X.env=(false,eval e X.env)::starEach es X.env:=by rfl) (hpl:(backTo pos (starEach es X.env)).any (·.1)=false:=by rfl):
  PE X (.Call (.Name x p) (e::es) [] pos) (tCallD sp t):=by
 obtain⟨fd,hb,F⟩:=D.ex;have h:=pe_call (p:=p) (pos:=pos) (jl:=[]) F hr hg D.v8 D.kp hb.binds .nil Jj ha hdb he hpl;intro aj s σ H Q I q;refine h aj s σ H Q I ?_;show t σ H λvs H1=>sp (vs++[]) H1 Q E0;simp only[append_nil];exact q
theorem wg (D:v9 X.prog X.w X.K X.mg X.aq C m k ps sp)(ho:PE X o ta)(ha:PA X (e::es) t)(hr:cW k X.A:=by exact cW.mono (by assumption) (by decide)){pl:Sem Bool}
  (hst:starEach (e::es) X.env=(false,eval e X.env)::starEach es X.env:=by rfl) (hpl:(backTo pos (starEach es X.env)).any (·.1)=false:=by rfl)
  (ht:eval (.Call (.Attribute o m apos) (e::es) [] pos) X.env=(do
   let ov<-eval o X.env
   standAt apos.atName
   let (f,first)<-holding [ov] (getMethod ov m pl)
   callWith pos f first (backTo pos (starEach (e::es) X.env)) (backToKw pos (keywordEach [] X.env))):=by rfl):
  PE X (.Call (.Attribute o m apos) (e::es) [] pos) (Vy C m sp ta t):=by
 obtain⟨f,fd,hm,hb,F⟩:=D.ex;have h:=pe_meth (pl:=pl) (jl:=[]) ho D.cl hm F hr hb .nil Jj ha hst hpl ht;intro aj s σ H Q I q;refine h aj s σ H Q I ?_;unfold tMeth;simp only[append_nil];exact q
theorem cA (D:v9 X.prog X.w X.K X.mg X.aq C m k ps sp)(ho:PE X o ta)(hr:cW k X.A:=by exact cW.mono (by assumption) (by decide)){pl:Sem Bool}
  (ht:eval (.Call (.Attribute o m apos) [] [] pos) X.env=(do
   let ov<-eval o X.env
   standAt apos.atName
   let (f,first)<-holding [ov] (getMethod ov m pl)
   callWith pos f first (backTo pos (starEach [] X.env)) (backToKw pos (keywordEach [] X.env))):=by rfl):
  PE X (.Call (.Attribute o m apos) [] [] pos) (Vy C m sp ta Cg):=by
 obtain⟨f,fd,hm,hb,F⟩:=D.ex;exact pe_meth0 (pl:=pl) (jl:=[]) ho D.cl hm F hr hb .nil Jj ht
theorem iC (D:Nm X.prog X.w X.K X.mg X.aq x C k ps sp)(ha:PA X (e::es) t)(hr:cW (k+1) X.A:=by exact cW.mono (by assumption) (by decide))(hg:Gl X x:=by exact rfl)(hdb:(x == ("__debug__":Str))=false:=by decide)
  (he:starEach (e::es) X.env=(false,eval e X.env)::starEach es X.env:=by rfl) (hpl:(backTo pos (starEach es X.env)).any (·.1)=false:=by rfl):
  PE X (.Call (.Name x p) (e::es) [] pos) (Vz C sp t):=by
 obtain⟨f,fd,M,hb,F⟩:=D.ex;have h:=pe_make (p:=p) (pos:=pos) (jl:=[]) M F hr hg D.v8 hb .nil Jj ha hdb he hpl;intro aj s σ H Q I q;refine h aj s σ H Q I ?_;unfold tMake;simp only[append_nil];exact q
theorem pe_makeD0 (D:Nm X.prog X.w X.K X.mg X.aq x C k ps sp)(hr:cW (k+1) X.A:=by exact cW.mono (by assumption) (by decide))(hg:Gl X x:=by exact rfl)(hdb:(x == ("__debug__":Str))=false:=by decide):
  PE X (.Call (.Name x p) [] [] pos) (Vz C sp Cg):=by
 obtain⟨f,fd,M,hb,F⟩:=D.ex;exact pe_make0 (p:=p) (pos:=pos) (jl:=[]) M F hr hg D.v8 hb .nil Jj hdb
theorem bG (ha:PE X e ta)(hs:starEach [e] X.env=(false,eval e X.env)::starEach [] X.env:=by rfl):PA X [e] (Je ta Cg):=bC ha dM hs
theorem bB {e1 e2:Expr}{t1 t2:TE}(h1:PE X e1 t1)(h2:PE X e2 t2)(s1:starEach [e1,e2] X.env=(false,eval e1 X.env)::starEach [e2] X.env:=by rfl)(s2:starEach [e2] X.env=(false,eval e2 X.env)::starEach [] X.env:=by rfl):PA X [e1,e2] (Je t1 (Je t2 Cg)):=bC h1 (bG h2 s2) s1
theorem aX (i:Nat){pos':Pos}(hN:X.N.Nodup)(he:PE X e ta)(hi:X.N[i]? =some x:=by rfl)(hx:Loc X.env.scope x:=by exact Or.inl rfl)(hs:swapsWith e (some (.Name x pos')) pos.line X.env=pure false:=by rfl)(hf:X.fn x=true\/X.env.scope.names.lookup x=some .local:=by first|exact .inl rfl|exact .inr rfl|assumption):
  PS X (.Assign [.Name x pos'] e pos) (tAsg ta (pN i)):=ps_set hN hi hx he hs hf
structure Pv (X:Cx)(i:Nat)(x:Str):Prop where
 hN:X.N[i]? =some x
 hv:YQ X.env.scope x
 hd:(x == ("__debug__":Str))=false
 hc:(x == ("__classdict__":Str))=false
theorem Pv.pe {i:Nat}(h:Pv X i x):PE X (.Name x pos) (qT i):=pe_var h.1 h.2 h.3 h.4
theorem aK (h:Pv X 0 x:=by walk_at "p"):PE X (.Name x pos) (qT 0):=h.pe
theorem aR (h:Pv X 1 x:=by walk_at "p"):PE X (.Name x pos) (qT 1):=h.pe
theorem bf (h:Pv X 2 x:=by walk_at "p"):PE X (.Name x pos) (qT 2):=h.pe
theorem bF (h:Pv X 3 x:=by walk_at "p"):PE X (.Name x pos) (qT 3):=h.pe
theorem cM (h:Pv X 4 x:=by walk_at "p"):PE X (.Name x pos) (qT 4):=h.pe
theorem iV (h:Pv X 5 x:=by walk_at "p"):PE X (.Name x pos) (qT 5):=h.pe
theorem Cm (h:Pv X 6 x:=by walk_at "p"):PE X (.Name x pos) (qT 6):=h.pe
theorem VB (h:Pv X 7 x:=by walk_at "p"):PE X (.Name x pos) (qT 7):=h.pe
theorem pq_8 (h:Pv X 8 x:=by walk_at "p"):PE X (.Name x pos) (qT 8):=h.pe
theorem jT (hf:PE X fe tf)(ha:PA X (e::es) t)
  (he:starEach (e::es) X.env=(false,eval e X.env)::starEach es X.env:=by rfl) (hpl:(backTo pos (starEach es X.env)).any (·.1)=false:=by rfl)
  (ht:eval (.Call fe (e::es) [] pos) X.env=(do callWith pos (<-eval fe X.env) [] (backTo pos (starEach (e::es) X.env)) (backToKw pos (keywordEach [] X.env))):=by rfl):
  PE X (.Call fe (e::es) [] pos) (tCallV X tf t):=by
 intro aj s σ H Q I h;rw[ht];refine wpAny_bind (bW (hf aj s σ H _ I h) λu s1 ⟨x,H1,I1,r1,f,ex,O,q1⟩=>?_);subst ex;obtain rfl:u=Value.ref f:=r1;refine callWith_K (h₀:=X.aq) I.ok.mod.YM O (bW (ha pos aj s1 σ H1 _ I1 q1) λus s2 ⟨vs,H2,I2,r,k,fd,ps,sp,hr,hb,F,q⟩=>⟨I2.sG,?_⟩) he hpl;refine M7 (jl:=[]) (ds:=[]) F hr hb .nil Jj I2 r ?_;simp only[append_nil];exact q
end
end L2
namespace PySem
namespace F
end F
section
variable {prog:Program}{w:World}{A:Around}{E:VS0}{s:Shared}
end
end PySem
namespace L2
end L2
namespace L2
section
variable {K:Frag}{H:Hp}{Q:VK}
theorem x_ss {v:V}{k:V->Prop}:(∃u,some (some v)=some (some u)/\k u)↔k v:=⟨λ⟨u,e,h⟩=>by injection e with e;injection e with e;subst e;exact h,λh=>⟨v,rfl,h⟩⟩
theorem x_ii {i j:Int}{k:Int->Int->Prop}:(∃i' j',V.int i=.int i'/\V.int j=.int j'/\k i' j')↔k i j:=⟨λ⟨_,_,e,e',h⟩=>by injection e with e;injection e' with e';subst e e';exact h,λh=>⟨_,_,rfl,rfl,h⟩⟩
theorem x_i {i:Int}{k:Int->Prop}:(∃i',V.int i=.int i'/\k i')↔k i:=⟨λ⟨_,e,h⟩=>by injection e with e;subst e;exact h,λh=>⟨_,rfl,h⟩⟩
theorem x_b {b:Bool}{k:Bool->Prop}:(∃c,V.bl b=.bl c/\k c)↔k b:=⟨λ⟨_,e,h⟩=>by injection e with e;subst e;exact h,λh=>⟨_,rfl,h⟩⟩
theorem x_l2 {i j:Int}{k:Int->Int->Prop}:(∃i' j',[V.int i,V.int j]=[.int i',.int j']/\k i' j')↔k i j:=⟨λ⟨_,_,e,h⟩=>by injection e with e e';injection e with e;injection e' with e' _;injection e' with e';subst e e';exact h,λh=>⟨_,_,rfl,h⟩⟩
theorem x_l1 {i:Int}{k:Int->Prop}:(∃i',[V.int i]=[.int i']/\k i')↔k i:=⟨λ⟨_,e,h⟩=>by injection e with e _;injection e with e;subst e;exact h,λh=>⟨_,rfl,h⟩⟩
theorem rI0_ii {g:Int->Int->V}{i j:Int}:Kg g (.int i) (.int j) H Q↔Q (g i j) H:=x_ii
theorem rI_ii {C:Int->Int->Prop}{g:Int->Int->V}{i j:Int}:rI C g (.int i) (.int j) H Q↔C i j/\Q (g i j) H:=x_ii (k:=λi j=>C i j/\Q (g i j) H)
theorem rU_i {g:Int->V}{i:Int}:rU g (.int i) H Q↔Q (g i) H:=x_i
def gn (K:Frag)(f:Str)(x:V)(H:Hp)(Q:VK):Prop:=∃a C dx fs v,x=.ref a/\H a=some (.ins C dx fs)/\Cls K C/\cR K C f/\fs.lookup f=some v/\Q v H
theorem tFld_r {ta:TE}{f:Str}{σ:St}:tFld K ta f σ H Q=ta σ H λx H1=>gn K f x H1 Q:=rfl
theorem dJ {f:Str}{a C dx:Addr}{fs:List (Str×V)}{v:V}(h:H a=some (.ins C dx fs))(c:Cls K C)(n:cR K C f)(l:fs.lookup f=some v):gn K f (.ref a) H Q↔Q v H:=by
 constructor
 ·rintro⟨a',C',m6,fs',v',e,h',_,_,l',q⟩;injection e with e;subst e
  rw[h] at h';injection h' with h';injection h' with e1 e2 e3
  subst e3;rw[l] at l';injection l' with l';subst l';exact q
 ·exact λq=>⟨a,C,dx,fs,v,rfl,h,c,n,l,q⟩
theorem bw {p:Addr}{xs:List V}{i:Int}{v:V}(h:bR K H p xs)(e:vX xs i=some v)(q:Q v H):PN K (.ref p) (.int i) H Q:=⟨p,xs,i,v,rfl,rfl,h,e,q⟩
theorem aL {p:Addr}{xs:List V}{i:Int}{v:V}(h:aF K H p xs)(e:vX xs i=some v)(q:Q v H):Vo K (.ref p) (.int i) H Q:=⟨p,xs,i,v,rfl,rfl,h,e,q⟩
theorem i_t {p:Prop}{A B:Prop}[Decidable p]:(if decide p=true then A else B)↔if p then A else B:=by
 by_cases h:p<;>simp[h]
theorem i_f {p:Prop}{A B:Prop}[Decidable p]:(if (!decide p)=true then A else B)↔if p then B else A:=by
 by_cases h:p<;>simp[h]
theorem i_T {A B:Prop}:(if true=true then A else B)↔A:=by simp
theorem i_F {A B:Prop}:(if false=true then A else B)↔B:=by simp
end
section
variable {CX:yd}{P:Program}{w:World}{K:Frag}{mg:Str->Option Value}{aq:Heap}{N:List Str}{qual:Str}{scope:Scope}{f:Addr}{cd:Value}{A:Around}{outer:List Env}{s:Shared}{H:Hp}{E:XK}
theorem cx_K:(uy CX P w K mg aq N qual scope f cd A outer s H E).K=K:=rfl
theorem cx_prog:(uy CX P w K mg aq N qual scope f cd A outer s H E).prog=P:=rfl
theorem cx_w:(uy CX P w K mg aq N qual scope f cd A outer s H E).w=w:=rfl
theorem cx_mg:(uy CX P w K mg aq N qual scope f cd A outer s H E).mg=mg:=rfl
theorem cx_base:(uy CX P w K mg aq N qual scope f cd A outer s H E).aq=aq:=rfl
theorem cx_A:(uy CX P w K mg aq N qual scope f cd A outer s H E).A=A.deeper (envOfC qual scope s.heap.objs.size f cd):=rfl
end
theorem aY {P:Program}{w:World}{K:Frag}{mg:Str->Option Value}{aq:Heap}{x:Str}{f:Addr}{k:Nat}{ps:List Str}{sp:Sp}{A:Around}{vs:List V}{H:Hp}{Q:VK}(D:bI P w K mg aq x f k ps sp)(hr:cW k A)(q:sp vs H Q E0):
  ∃f',V.ref f=.ref f'/\keepIn K (.ref f')=true/\∃k fd ps sp,cW k A/\Binds K fd ps []/\gJ P w K mg aq vZ k f' fd ps sp/\sp vs H Q E0:=by
 obtain⟨fd,b,F⟩:=D.ex;exact⟨f,rfl,D.kp,k,fd,ps,sp,hr,b.binds,F,q⟩
section
variable {K:Frag}{H:Hp}
def rSetF (K:Frag)(f:Str)(x y:V)(H:Hp)(k:Hp->Prop):Prop:=∃a C dx fs,x=.ref a/\H a=some (.ins C dx fs)/\Cls K C/\cR K C f/\fs.length<1000/\k (aN H a (.ins C dx (bA f y fs)))
theorem sFld_r {ta tv:TE}{f:Str}{D:Ends}{σ:St}:sFld K ta tv f D σ H=tv σ H λy H1=>ta σ H1 λx H2=>rSetF K f x y H2 λH3=>D.nx σ H3:=rfl
theorem cY {f:Str}{a C dx:Addr}{fs:List (Str×V)}{y:V}{k:Hp->Prop}(h:H a=some (.ins C dx fs))(c:Cls K C)(n:cR K C f)(l:fs.length<1000):rSetF K f (.ref a) y H k↔k (aN H a (.ins C dx (bA f y fs))):=by
 constructor
 ·rintro⟨a',C',m6,fs',e,h',_,_,_,q⟩;injection e with e;subst e
  rw[h] at h';injection h' with h';injection h' with e1 e2 e3
  subst e1 e2 e3;exact q
 ·exact λq=>⟨a,C,dx,fs,rfl,h,c,n,l,q⟩
def But (S:List Addr)(H Z:Hp):Prop:=∀b o,H b=some o->b∉S->Z b=some o
theorem But.refl (S:List Addr)(H:Hp):But S H H:=λz z h z=>h
theorem But.trans {S:List Addr}{H H1 H2:Hp}(a:But S H H1)(b:But S H1 H2):But S H H2:=λc o h n=>b c o (a c o h n) n
theorem But.mono {S T:List Addr}{H H1:Hp}(a:But S H H1)(h:∀x∈S,x∈T):But T H H1:=λc o e n=>a c o e λz=>n (h c z)
theorem aA.but {S:List Addr}{H Z:Hp}(h:aA H Z):But S H Z:=λb o e z=>h b o e
theorem aA.laid {H:Hp}{p:Addr}{o:HO}(n:H p=none):aA H (aN H p o):=λb u e=>by rw[aO (aW e n)];exact e
theorem But.wrote {H:Hp}{p:Addr}{o:HO}:But [p] H (aN H p o):=λb u e n=>by rw[aO (λz=>n (by simp[z]))];exact e
theorem Rw {f:Str}{a C dx:Addr}{fs:List (Str×V)}{v y:V}{ta tv:TE}{rd:V->V->Hp->VK->Prop}{D:Ends}{σ:St}(hta:∀Q,ta σ H Q↔Q (.ref a) H)(htv:∀Q,tv σ H Q↔Q y H)(h:H a=some (.ins C dx fs))(c:Cls K C)(n:cR K C f)(l:fs.lookup f=some v)(ll:fs.length<1000)
  (q:rd v y H λz H3=>H3=H/\D.nx σ (aN H a (.ins C dx (bA f z fs)))) (mono:∀Q Q':VK,(∀z Z,Q z Z->Q' z Z)->rd v y H Q->rd v y H Q'):PK K ta tv rd f D σ H:=by
 unfold PK;rw[hta];refine⟨a,C,dx,fs,v,rfl,h,c,n,l,?_⟩;rw[htv];exact mono _ _ (λz Z ⟨e,q⟩=>by subst e;exact⟨dx,fs,h,ll,q⟩) q
end
theorem rA (xs:List V){lo hi:Int}{i n:Nat}(e1:lo=(i:Int))(e2:hi=((i+n:Nat):Int))(h:i+n<=xs.length):zq xs (some lo) (some hi)=(xs.drop i).take n:=by
 subst e1 e2;unfold zq;rw[HT.PL,HT.PL,Nat.min_eq_left h,Nat.min_eq_left (show i<=xs.length by lia)]
 congr 1;lia
theorem But.seq {K:Frag}{S:List Addr}{H Z:Hp}{c:Addr}{xs:List V}(b:But S H Z)(h:aF K H c xs)(n:c∉S):aF K Z c xs:=by
 rcases h with(h|⟨o,h⟩)|h
 ·exact .inl (.inl (b _ _ h n))
 ·exact .inl (.inr ⟨o,b _ _ h n⟩)
 ·exact .inr h
theorem Gk (f:Str)(x y:V):∀l:List (Str×V),bA f y (bA f x l)=bA f y l
 |[]=>by
  show(if f=f then[(f,y)] else(f,x)::bA f y [])=[(f,y)];rw[if_pos rfl]
 |(g,v)::l=>by
  have e0:∀z,bA f z ((g,v)::l)=if g=f then(g,z)::l else(g,v)::bA f z l:=λz=>rfl;rw[e0 x,e0 y];by_cases e:g=f
  ·rw[if_pos e,if_pos e];show(if g=f then(g,y)::l else _)=_;rw[if_pos e]
  ·rw[if_neg e,if_neg e];show(if g=f then _ else(g,v)::bA f y (bA f x l))=_;rw[if_neg e,Gk f x y l]
theorem sW (f g:Str)(x y:V):(bA f x (bA g y [])).length<1000:=by
 have h1:=cO f x (bA g y []);have h2:=cO g y [];simp at h2;lia
theorem oX (g:Str)(y:V):(bA g y []).length<1000:=by
 have h2:=cO g y [];simp at h2;lia
def rM (C:Addr)(m:Str)(x:V)(H:Hp)(k:Prop):Prop:=∃a dx fs,x=.ref a/\H a=some (.ins C dx fs)/\fs.lookup m=none/\k
theorem tMethD_r {C:Addr}{m:Str}{sp:Sp}{ta:TE}{t:TA}{σ:St}{H:Hp}{Q:VK}:Vy C m sp ta t σ H Q=ta σ H λx H1=>rM C m x H1 (t σ H1 λvs H2=>sp (x::vs) H2 Q E0):=rfl
theorem rM_at {C:Addr}{m:Str}{H:Hp}{k:Prop}{a dx:Addr}{fs:List (Str×V)}(h:H a=some (.ins C dx fs))(l:fs.lookup m=none):rM C m (.ref a) H k↔k:=
 ⟨λ⟨_,_,_,_,_,_,q⟩=>q,λq=>⟨a,dx,fs,rfl,h,l,q⟩⟩
def uT (K:Frag)(H:Hp)(a:Addr)(xs:List V):Prop:=(∃o,H a=some (.j4 o (.aB xs)))\/
 ∃(o:Obj) (its:Array Value) (n:Nat),K.lookup a=some o/\o.cls=.type "list"/\o.dict=none/\o.data=.seq its n/\its.size<=sizeLine/\Vals xs its.toList
theorem uT.sql {K:Frag}{H:Hp}{a:Addr}{xs:List V}(h:uT K H a xs):aF K H a xs:=by
 rcases h with⟨o,h⟩|h
 ·exact .inl (.inr ⟨o,h⟩)
 ·exact .inr h
theorem uT.but {K:Frag}{H Z:Hp}{a:Addr}{xs:List V}{S:List Addr}(h:uT K H a xs)(b:But S H Z)(n:∀z∈S,∀o u,H z≠some (.j4 o u)):uT K Z a xs:=by
 rcases h with⟨o,h⟩|h
 ·exact .inl ⟨o,b _ _ h λz=>n _ z _ _ h⟩
 ·exact .inr h
theorem uT.same {K:Frag}{H Z:Hp}{a:Addr}{xs:List V}(h:uT K H a xs)(s:aA H Z):uT K Z a xs:=h.but (S:=[]) s.but λz hz=>absurd hz (by simp)
theorem bI.mono {P:Program}{w:World}{K:Frag}{mg:Str->Option Value}{aq:Heap}{x:Str}{f:Addr}{j k:Nat}{ps:List Str}{sp:Sp}(D:bI P w K mg aq x f j ps sp)(h:j<=k):bI P w K mg aq x f k ps sp:=by
 obtain⟨fd,b,F⟩:=D.ex;exact⟨D.v8,D.kp,fd,b,F.mono h⟩
theorem take_snoc {α:Type}:∀{l:List α}{i:Nat}{x:α},l[i]? =some x->l.take (i+1)=l.take i++[x]
 |[],i,x,h=>by simp at h
 |a::l,0,x,h=>by
  have e:a=x:=Option.some.inj h;subst e;rfl
 |a::l,i+1,x,h=>by
  have ih:=take_snoc (l:=l) (i:=i) (x:=x) h;show a::l.take (i+1)=a::l.take i++[x];rw[ih];rfl
end L2
namespace PySem
namespace MM
open PySem
section
variable {prog:Program}{w:World}{A:Around}{R:Result->Shared->Prop}{I:Addr}{fp wr:List Addr}{n:Nat}{P:Nat->Value->Prop}{St:Nat->Heap->Prop}
theorem max_on (W:Walks prog w A.in1 I fp wr n P St)(bt:Nat->Nat->Bool)(cmp:CmpOf prog w A.in1 .Gt P bt)(B:Addr)(nB:B∉fp)(kw:List (Str×Value)):
  ∀(k j:Nat) (s:Shared) (x:Value) (c:Nat),n-(j+1)=k->j+1<=n->St (j+1) s.heap->P (argBest bt j) x->
  s.heap.get? B=some {cls:=.type "list",dict:=none,data:=.seq #[x,x] c,slots:= #[]}->
  (∀v h' tk,P (argBest bt (n-1)) v->(∀b o,b∉wr->b≠B->s.heap.get? b=some o->h'.get? b=some o)->R (.ok (.ret v)) {s with heap:=h',toks:=tk})->
  codeAny (model prog w) A (.builtin "max.loop" ⟨[.ref I,.none,.ref B],kw⟩) R s:=by
 have nW:B∉wr:=λq=>nB (W.sub _ q);have nm:(toString "max"++toString ".loop":String)="max.loop":=by decide
 intro k
 induction k with
 |zero=>
  intro j s x c ek ej st px eB out;have ejn:j+1=n:=by lia
  refine codeAny_builtin F.entry_max_loop ?_;rw[Around.under_plainId F.plain_max_loop _];show wpAny _ A.in1 (seqItems? (.ref B)>>= _) _ _ s;refine wpAny_bind (wpAny_seqItems eB rfl ?_);show wpAny _ A.in1 (tryCatch (pyNext (.ref I)) _>>= _) _ _ s;refine wpAny_bind (wpAny_tryCatch (W.done s _ _ (ejn▸st) λh1 t1 keep=>?_));have sX:=keep B _ nW eB;show wpAny _ A.in1 (updateSeq B (λy=> #[])>>= _) _ _ _;refine wpAny_bind (wpAny_updateSeq sX rfl (wpAny_bind (wpAny_letGo (wpAny_pure ?_))));exact out x _ t1 (by rw[<-ejn];exact px) λb o nb pP q=>(Heap.get?_update_other _ _ (Ne.symm pP)).trans (keep b o nb q)
 |succ k ih=>
  intro j s x c ek ej st px eB out;have jn:j+1<n:=by lia
  refine codeAny_builtin F.entry_max_loop ?_;rw[Around.under_plainId F.plain_max_loop _];show wpAny _ A.in1 (seqItems? (.ref B)>>= _) _ _ s;refine wpAny_bind (wpAny_seqItems eB rfl ?_);show wpAny _ A.in1 (tryCatch (pyNext (.ref I)) _>>= _) _ _ s;refine wpAny_bind (wpAny_tryCatch (W.item (j+1) s _ _ jn st λv h1 t1 pv st1 keep=>?_));have sX:=keep B _ nW eB;show wpAny _ A.in1 (tryCatch (holding [v,v] (richCompare .Gt v x>>= _)) _>>= _) _ _ _;refine wpAny_bind (wpAny_tryCatch (wpAny_holding (wpAny_bind (cmp (j+1) (argBest bt j) v x _ _ _ pv px ?_))));refine wpAny_bind (wpAny_holding (wpAny_truthy_bool (wpAny_bind (wpAny_letGo (wpAny_pure ?_)))));cases eb:bt (j+1) (argBest bt j) with
  |true=>
   simp only[if_true];refine wpAny_bind (wpAny_updateSeq sX rfl (wpAny_bind (wpAny_letGo ?_)));rw[nm];refine wpAny_pure ⟨plainId_quiet F.plain_max_loop _,ih (j+1) _ v _ (by lia) jn (W.frame _ _ _ st1 λb nb o q=>?_) (by simp only[argBest,eb,if_true];exact pv) (Heap.get?_update_self _ sX rfl) λv2 h2 t2 Gm pQ=>?_⟩
   ·exact(Heap.get?_update_other _ _ (λz:B=b=>nB (by rw[z];exact nb))).trans q
   ·exact out v2 h2 t2 Gm λb o nb pP q=>pQ b o nb pP ((Heap.get?_update_other _ _ (Ne.symm pP)).trans (keep b o nb q))
  |false=>
   simp only[false_eq_true,if_false];refine wpAny_bind (wpAny_letGo ?_);rw[nm];refine wpAny_pure ⟨plainId_quiet F.plain_max_loop _,ih (j+1) _ x c (by lia) jn st1 (by simp only[argBest,eb,false_eq_true,if_false];exact px) sX λv2 h2 t2 Gm pQ=>?_⟩;exact out v2 h2 t2 Gm λb o nb pP q=>pQ b o nb pP (keep b o nb q)
theorem max_from (W:Walks prog w A.in1 I fp wr n P St)(bt:Nat->Nat->Bool)(cmp:CmpOf prog w A.in1 .Gt P bt)(B:Addr)(nB:B∉fp)(dn:Str)(d:Value){s:Shared}{c:Nat}(st:St 0 s.heap)
  (eB:s.heap.get? B=some {cls:=.type "list",dict:=none,data:=.seq #[] c,slots:= #[]})
  (out:∀v h' tk,(0<n/\P (argBest bt (n-1)) v\/n=0/\v=d)->(∀b o,b∉wr->b≠B->s.heap.get? b=some o->h'.get? b=some o)->R (.ok (.ret v)) {s with heap:=h',toks:=tk}):
  codeAny (model prog w) A (.builtin "max.loop" ⟨[.ref I,.none,.ref B],[(dn,d)]⟩) R s:=by
 have nW:B∉wr:=λq=>nB (W.sub _ q);have nm:(toString "max"++toString ".loop":String)="max.loop":=by decide
 refine codeAny_builtin F.entry_max_loop ?_;rw[Around.under_plainId F.plain_max_loop _];show wpAny _ A.in1 (seqItems? (.ref B)>>= _) _ _ s;refine wpAny_bind (wpAny_seqItems eB rfl ?_);show wpAny _ A.in1 (tryCatch (pyNext (.ref I)) _>>= _) _ _ s;by_cases n0:0<n
 ·refine wpAny_bind (wpAny_tryCatch (W.item 0 s _ _ n0 st λv h1 t1 pv st1 keep=>?_));have sX:=keep B _ nW eB;show wpAny _ A.in1 (updateSeq B (λy=> #[v,v])>>= _) _ _ _;refine wpAny_bind (wpAny_updateSeq sX rfl ?_);rw[nm];refine wpAny_pure ⟨plainId_quiet F.plain_max_loop _,max_on W bt cmp B nB _ _ 0 _ v _ rfl n0 (W.frame _ _ _ st1 λb nb o q=>?_) pv (Heap.get?_update_self _ sX rfl) λv2 h2 t2 Gm pQ=>?_⟩
  ·exact(Heap.get?_update_other _ _ (λz:B=b=>nB (by rw[z];exact nb))).trans q
  ·exact out v2 h2 t2 (.inl ⟨n0,Gm⟩) λb o nb pP q=>pQ b o nb pP ((Heap.get?_update_other _ _ (Ne.symm pP)).trans (keep b o nb q))
 ·have e0:n=0:=by lia
  subst e0;refine wpAny_bind (wpAny_tryCatch (W.done s _ _ st λh1 t1 keep=>?_));refine wpAny_bind (wpAny_rule ?_);exact wpAny_pure (out d h1 t1 (.inr ⟨rfl,rfl⟩) λb o nb y q=>keep b o nb q)
end
section
variable {prog:Program}{w:World}{A:Around}{E:VS0}{s:Shared}{l:Addr}{xs:Array (Int×Tok)}
theorem max_dflt {d:Value}{Q:VS0}(hh:A.handled=none)(hl:s.heap.IsList l (intItems xs))
  (h:∀v h' tk,(0<xs.size/\(intItems xs)[argBest (λi j=>decide (numAt xs i>numAt xs j)) (xs.size-1)]? =some v\/xs.size=0/\v=d)->(∀b o,s.heap.get? b=some o->h'.get? b=some o)->Q v {s with heap:=h',toks:=tk}):
  wpAny (model prog w) A (call (.builtin "max") [.ref l] [(Str.ofString "default",d)]) Q E s:=by
 have nm:(toString "max"++toString ".loop":String)="max.loop":=by decide
 refine PyProof.Rows.kmk_tree F.kind_max F.plain_max F.entry_max (by unfold argsOk;kernel_rfl) ?_;show wpAny _ A.in1 (Builtin.Builtins.bindParams "max" ["key","default"] 0 ⟨[],[(Str.ofString "default",d)]⟩>>= _) _ _ s;refine wpAny_bind (wpAny_of_eq (show Builtin.Builtins.bindParams "max" ["key","default"] 0 ⟨[],[(Str.ofString "default",d)]⟩=pure [none,some d] from rfl) ?_);refine wpAny_bind (wpAny_pure (wpAny_bind ?_));refine iter_intList hl λs₂ e st hfp hlI=>?_;subst e;refine wpAny_bind (wpAny_newObj_type ?_);have nf:=λq=>lt_irrefl _ (hfp _ q);rw[nm];have W:=Walks.list (prog:=prog) (w:=w) (A:=A.in1) hh s.heap.objs.size l hlI (intItems xs);refine wpAny_pure ⟨plainId_quiet F.plain_max_loop _,max_from W (λi j=>decide (numAt xs i>numAt xs j)) (CmpOf.ints_gt (numAt xs) (λz z=>intItems_at)) _ nf _ d (W.frame _ _ _ st λb z o q=>Heap.get?_push_of_some _ q) (Heap.get?_push_size _ rfl) λv h' tk hv O=>?_⟩;refine h v h' tk (by simpa[intItems] using hv) λb o q=>?_;refine old_kept (l:=l) (λb o nb q=>?_) b o q;exact O b o nb (ne_of_lt (Heap.lt_size q)) (Heap.get?_push_of_some _ q)
end
section
variable {prog:Program}{w:World}{A:Around}{R:Result->Shared->Prop}{I:Addr}{fp wr:List Addr}{n:Nat}{P:Nat->Value->Prop}{St:Nat->Heap->Prop}
theorem min_on (W:Walks prog w A.in1 I fp wr n P St)(bt:Nat->Nat->Bool)(cmp:CmpOf prog w A.in1 .Lt P bt)(B:Addr)(nB:B∉fp)(kw:List (Str×Value)):
  ∀(k j:Nat) (s:Shared) (x:Value) (c:Nat),n-(j+1)=k->j+1<=n->St (j+1) s.heap->P (argBest bt j) x->
  s.heap.get? B=some {cls:=.type "list",dict:=none,data:=.seq #[x,x] c,slots:= #[]}->
  (∀v h' tk,P (argBest bt (n-1)) v->(∀b o,b∉wr->b≠B->s.heap.get? b=some o->h'.get? b=some o)->R (.ok (.ret v)) {s with heap:=h',toks:=tk})->
  codeAny (model prog w) A (.builtin "min.loop" ⟨[.ref I,.none,.ref B],kw⟩) R s:=by
 have nW:B∉wr:=λq=>nB (W.sub _ q);have nm:(toString "min"++toString ".loop":String)="min.loop":=by decide
 intro k
 induction k with
 |zero=>
  intro j s x c ek ej st px eB out;have ejn:j+1=n:=by lia
  refine codeAny_builtin F.entry_min_loop ?_;rw[Around.under_plainId F.plain_min_loop _];show wpAny _ A.in1 (seqItems? (.ref B)>>= _) _ _ s;refine wpAny_bind (wpAny_seqItems eB rfl ?_);show wpAny _ A.in1 (tryCatch (pyNext (.ref I)) _>>= _) _ _ s;refine wpAny_bind (wpAny_tryCatch (W.done s _ _ (ejn▸st) λh1 t1 keep=>?_));have sX:=keep B _ nW eB;show wpAny _ A.in1 (updateSeq B (λy=> #[])>>= _) _ _ _;refine wpAny_bind (wpAny_updateSeq sX rfl (wpAny_bind (wpAny_letGo (wpAny_pure ?_))));exact out x _ t1 (by rw[<-ejn];exact px) λb o nb pP q=>(Heap.get?_update_other _ _ (Ne.symm pP)).trans (keep b o nb q)
 |succ k ih=>
  intro j s x c ek ej st px eB out;have jn:j+1<n:=by lia
  refine codeAny_builtin F.entry_min_loop ?_;rw[Around.under_plainId F.plain_min_loop _];show wpAny _ A.in1 (seqItems? (.ref B)>>= _) _ _ s;refine wpAny_bind (wpAny_seqItems eB rfl ?_);show wpAny _ A.in1 (tryCatch (pyNext (.ref I)) _>>= _) _ _ s;refine wpAny_bind (wpAny_tryCatch (W.item (j+1) s _ _ jn st λv h1 t1 pv st1 keep=>?_));have sX:=keep B _ nW eB;show wpAny _ A.in1 (tryCatch (holding [v,v] (richCompare .Lt v x>>= _)) _>>= _) _ _ _;refine wpAny_bind (wpAny_tryCatch (wpAny_holding (wpAny_bind (cmp (j+1) (argBest bt j) v x _ _ _ pv px ?_))));refine wpAny_bind (wpAny_holding (wpAny_truthy_bool (wpAny_bind (wpAny_letGo (wpAny_pure ?_)))));cases eb:bt (j+1) (argBest bt j) with
  |true=>
   simp only[if_true];refine wpAny_bind (wpAny_updateSeq sX rfl (wpAny_bind (wpAny_letGo ?_)));rw[nm];refine wpAny_pure ⟨plainId_quiet F.plain_min_loop _,ih (j+1) _ v _ (by lia) jn (W.frame _ _ _ st1 λb nb o q=>?_) (by simp only[argBest,eb,if_true];exact pv) (Heap.get?_update_self _ sX rfl) λv2 h2 t2 Gm pQ=>?_⟩
   ·exact(Heap.get?_update_other _ _ (λz:B=b=>nB (by rw[z];exact nb))).trans q
   ·exact out v2 h2 t2 Gm λb o nb pP q=>pQ b o nb pP ((Heap.get?_update_other _ _ (Ne.symm pP)).trans (keep b o nb q))
  |false=>
   simp only[false_eq_true,if_false];refine wpAny_bind (wpAny_letGo ?_);rw[nm];refine wpAny_pure ⟨plainId_quiet F.plain_min_loop _,ih (j+1) _ x c (by lia) jn st1 (by simp only[argBest,eb,false_eq_true,if_false];exact px) sX λv2 h2 t2 Gm pQ=>?_⟩;exact out v2 h2 t2 Gm λb o nb pP q=>pQ b o nb pP (keep b o nb q)
theorem min_from (W:Walks prog w A.in1 I fp wr n P St)(bt:Nat->Nat->Bool)(cmp:CmpOf prog w A.in1 .Lt P bt)(B:Addr)(nB:B∉fp)(dn:Str)(d:Value){s:Shared}{c:Nat}(st:St 0 s.heap)
  (eB:s.heap.get? B=some {cls:=.type "list",dict:=none,data:=.seq #[] c,slots:= #[]})
  (out:∀v h' tk,(0<n/\P (argBest bt (n-1)) v\/n=0/\v=d)->(∀b o,b∉wr->b≠B->s.heap.get? b=some o->h'.get? b=some o)->R (.ok (.ret v)) {s with heap:=h',toks:=tk}):
  codeAny (model prog w) A (.builtin "min.loop" ⟨[.ref I,.none,.ref B],[(dn,d)]⟩) R s:=by
 have nW:B∉wr:=λq=>nB (W.sub _ q);have nm:(toString "min"++toString ".loop":String)="min.loop":=by decide
 refine codeAny_builtin F.entry_min_loop ?_;rw[Around.under_plainId F.plain_min_loop _];show wpAny _ A.in1 (seqItems? (.ref B)>>= _) _ _ s;refine wpAny_bind (wpAny_seqItems eB rfl ?_);show wpAny _ A.in1 (tryCatch (pyNext (.ref I)) _>>= _) _ _ s;by_cases n0:0<n
 ·refine wpAny_bind (wpAny_tryCatch (W.item 0 s _ _ n0 st λv h1 t1 pv st1 keep=>?_));have sX:=keep B _ nW eB;show wpAny _ A.in1 (updateSeq B (λy=> #[v,v])>>= _) _ _ _;refine wpAny_bind (wpAny_updateSeq sX rfl ?_);rw[nm];refine wpAny_pure ⟨plainId_quiet F.plain_min_loop _,min_on W bt cmp B nB _ _ 0 _ v _ rfl n0 (W.frame _ _ _ st1 λb nb o q=>?_) pv (Heap.get?_update_self _ sX rfl) λv2 h2 t2 Gm pQ=>?_⟩
  ·exact(Heap.get?_update_other _ _ (λz:B=b=>nB (by rw[z];exact nb))).trans q
  ·exact out v2 h2 t2 (.inl ⟨n0,Gm⟩) λb o nb pP q=>pQ b o nb pP ((Heap.get?_update_other _ _ (Ne.symm pP)).trans (keep b o nb q))
 ·have e0:n=0:=by lia
  subst e0;refine wpAny_bind (wpAny_tryCatch (W.done s _ _ st λh1 t1 keep=>?_));refine wpAny_bind (wpAny_rule ?_);exact wpAny_pure (out d h1 t1 (.inr ⟨rfl,rfl⟩) λb o nb y q=>keep b o nb q)
end
section
variable {prog:Program}{w:World}{A:Around}{E:VS0}{s:Shared}{l:Addr}{xs:Array (Int×Tok)}
theorem min_dflt {d:Value}{Q:VS0}(hh:A.handled=none)(hl:s.heap.IsList l (intItems xs))
  (h:∀v h' tk,(0<xs.size/\(intItems xs)[argBest (λi j=>decide (numAt xs i<numAt xs j)) (xs.size-1)]? =some v\/xs.size=0/\v=d)->(∀b o,s.heap.get? b=some o->h'.get? b=some o)->Q v {s with heap:=h',toks:=tk}):
  wpAny (model prog w) A (call (.builtin "min") [.ref l] [(Str.ofString "default",d)]) Q E s:=by
 have nm:(toString "min"++toString ".loop":String)="min.loop":=by decide
 refine PyProof.Rows.kmk_tree F.kind_min F.plain_min F.entry_min (by unfold argsOk;kernel_rfl) ?_;show wpAny _ A.in1 (Builtin.Builtins.bindParams "min" ["key","default"] 0 ⟨[],[(Str.ofString "default",d)]⟩>>= _) _ _ s;refine wpAny_bind (wpAny_of_eq (show Builtin.Builtins.bindParams "min" ["key","default"] 0 ⟨[],[(Str.ofString "default",d)]⟩=pure [none,some d] from rfl) ?_);refine wpAny_bind (wpAny_pure (wpAny_bind ?_));refine iter_intList hl λs₂ e st hfp hlI=>?_;subst e;refine wpAny_bind (wpAny_newObj_type ?_);have nf:=λq=>lt_irrefl _ (hfp _ q);rw[nm];have W:=Walks.list (prog:=prog) (w:=w) (A:=A.in1) hh s.heap.objs.size l hlI (intItems xs);refine wpAny_pure ⟨plainId_quiet F.plain_min_loop _,min_from W (λi j=>decide (numAt xs i<numAt xs j)) (CmpOf.ints_lt (numAt xs) (λz z=>intItems_at)) _ nf _ d (W.frame _ _ _ st λb z o q=>Heap.get?_push_of_some _ q) (Heap.get?_push_size _ rfl) λv h' tk hv O=>?_⟩;refine h v h' tk (by simpa[intItems] using hv) λb o q=>?_;refine old_kept (l:=l) (λb o nb q=>?_) b o q;exact O b o nb (ne_of_lt (Heap.lt_size q)) (Heap.get?_push_of_some _ q)
end
end MM
end PySem
namespace L2
structure FnA (K:Frag)(mg:Str->Option Value)(x nm:Str)(f:Addr)(st:Stmt)(ps:List Str):Prop where
 v8:mg x=some (.ref f)
 ex:∃fd,yh K nm nm st f fd/\UB fd ps
theorem FnA.bx {P:Program}{w:World}{K:Frag}{mg:Str->Option Value}{aq:Heap}{x nm:Str}{f:Addr}{k:Nat}{st:Stmt}{ps:List Str}{sp:Sp}(T:FnA K mg x nm f st ps)
  (h:∀fd,yh K nm nm st f fd->gJ P w K mg aq vZ k f fd ps sp):bI P w K mg aq x f k ps sp:=by
 obtain⟨fd,F,b⟩:=T.ex;exact⟨T.v8,F.kp,fd,b,h fd F⟩
section
variable {X:Cx}{a b e o i:Expr}{ta tb te td ty:TE}{pos p p2:Pos}{rest:List Expr}
def tOrG (K:Frag)(ta tb:TE):TE:=λσ H Q=>ta σ H λx H1=>∃k,FW K x H1 k/\if k=true then Q x H1 else tb σ H1 Q
theorem jF (ha:PE X a ta)(hb:PE X (.BoolOp .Or (b::rest) pos) tb):PE X (.BoolOp .Or (a::b::rest) pos) (tOrG X.K ta tb):=by
 intro aj s σ H Q I h;refine BoolOp_or (bW (ha aj s σ H _ I h) λv s1 ⟨x,H1,I1,r1,k,O,q1⟩=>?_);refine bW (tru_ok aj s1 σ H1 x v (λc H2=>c=k/\H2=H1) I1 r1 ⟨k,O,rfl,rfl⟩) λc s2 ⟨H2,I2,hc,hH⟩=>?_;subst hc hH;cases c with
 |false=>exact hb aj s2 σ H2 Q I2 q1
 |true=>exact⟨x,H2,I2,r1,q1⟩
theorem blk_K {X:Cx}{s:Shared}{H:Hp}{sc:Scope}{env:Env}{fp:List Addr}:(X.blk s H sc env fp).K=X.K:=rfl
theorem bJ {K:Frag}{H:Hp}{p:Addr}{xs:List V}(h:aF K H p xs):FW K (.ref p) H (!xs.isEmpty):=.inl ⟨xs,h,rfl⟩
theorem bits_le {z:Int}{k:Nat}(h:z.natAbs<2^k):Builtin.Int.intBits z<=k:=by
 unfold Builtin.Int.intBits;split
 ·exact zero_le _
 ·rename_i h0;have h1:z.natAbs≠0:=by
   intro q;have:z=0:=by lia
   subst this;simp at h0
  have:z.natAbs.log2<k:=(Nat.log2_lt h1).mpr h;lia
def CShl (i j:Int):Prop:=0<=j/\(Builtin.Int.intBits i:Int)+j<=2^27
theorem Jp:jk X (binaryOp .LShift) (rI CShl λi j=>.int (i*2^j.toNat)):=Vh λz z z z z z z hc q=>lshift_int hc.1 hc.2 q
theorem op_mulB:jk X (binaryOp .Mult) (rI IntMulOk λi j=>.int (i*j)):=Vh λz z z z z z z hc q=>mul_int q hc
def rBitLen:V->List V->Hp->VK->Prop:=λx xs H Q=>∃i,x=.int i/\xs=[]/\Q (.int (Builtin.Int.intBits i)) H
theorem mt_bitlen:MtR X "int.bit_length" rBitLen:=by
 intro aj s σ H x xs v us Q I rx rs h;obtain⟨i,rfl,rfl,q⟩:=h;cases rs;obtain⟨t,rfl⟩:=rx;exact PyProof.Rows.call_int_bit_length ⟨.int _,H,I.tok _,⟨_,rfl⟩,q⟩
noncomputable def yp (xs:List V)(i k:Nat):List V:=((range ((xs.length-i+k-1)/k)).map λj=>i+k*j).filterMap λj=>xs[j]?
def rSl3 (K:Frag):V->Option Int->Int->Hp->VK->Prop:=λx lo st H Q=>∃(a:Addr) (xs:List V) (n:Nat) (k:Nat),x=.ref a/\aF K H a xs/\(lo=none/\n=0\/lo=some (n:Int))/\n<=xs.length/\st=(k:Int)/\1<=k/\∀p,H p=none->Q (.ref p) (aN H p (.aB (yp xs n k)))
def tSl3 (K:Frag)(te:TE)(tl:TO)(ts:TE):TE:=λσ H Q=>te σ H λx H1=>tl σ H1 λl H2=>ts σ H2 λy H3=>∃st:Int,y=.int st/\rSl3 K x l st H3 Q
theorem Rx (n k len:Nat)(O:1<=k)(hn:n<=len):sliceRange (n:Int) (len:Int) (k:Int)=(range ((len-n+k-1)/k)).map λj=>n+k*j:=by
 unfold sliceRange;have hk':(k:Int)>0:=by lia
 simp only[hk',if_true];have ec:(if (n:Int)<(len:Int) then((len:Int)-n+k-1)/k else 0).toNat=(len-n+k-1)/k:=by
  by_cases h:n<len
  ·rw[if_pos (by lia)];have e1:((len:Int)-n+k-1)=((len-n+k-1:Nat):Int):=by lia
   rw[e1, <-Int.natCast_ediv,toNat_natCast]
  ·rw[if_neg (by lia)];have:len-n+k-1=k-1:=by lia
   rw[this,Nat.div_eq_of_lt (by lia)];rfl
 rw[ec];refine map_congr_left λj z=>?_;have:((n:Int)+(k:Int)*(j:Int))=((n+k*j:Nat):Int):=by simp
 rw[this,toNat_natCast]
theorem vals_each {xs:List V}{its:List Value}(r:Vals xs its)(l:List Nat):Vals (l.filterMap λj=>xs[j]?) (l.filterMap λj=>its.toArray[j]?):=by
 induction l with
 |nil=>exact .nil
 |cons j l ih=>
  have e:its.toArray[j]? =its[j]? :=by simp
  cases h:xs[j]? with
  |none=>
   have hl:=r.length;have h2:its[j]? =none:=by
    rw[List.getElem?_eq_none_iff] at h⊢;lia
   rw[List.filterMap_cons_none (by exact h),List.filterMap_cons_none (by rw[e];exact h2)];exact ih
  |some x=>
   obtain⟨u,hu,ru⟩:=r.get h;rw[List.filterMap_cons_some (by exact h),List.filterMap_cons_some (by rw[e];exact hu)];exact .cons ru ih
theorem Ry {lo:Option Expr}{st:Expr}{tl:TO}{ts:TE}(he:PE X e te)(hl:PO X lo tl)(hs:PE X st ts):PE X (.Subscript e (.Slice lo none (some st) p2) pos) (tSl3 X.K te tl ts):=by
 intro aj s σ H Q I h;refine Subscript_ (bW (he aj s σ H _ I h) λv s1 ⟨x,H1,I1,r1,q1⟩=>?_);refine wpAny_Slice (bW (hl aj s1 σ H1 _ I1 q1) λvl s2 ⟨l,H2,I2,pl,q2⟩=>?_);rw[evalPart_none];refine wpAny_pure ?_;rw[evalPart_some];refine bW (hs aj s2 σ H2 _ I2 q2) λvs s3 ⟨y,H3,I3,ry,st,ey,a,xs,n,k,ex,hx,hlo,hn,est,O,q⟩=>?_;subst ey ex est;obtain⟨t,rfl⟩:=ry;cases r1;have I4:Inv X aj σ H3 {s3 with heap:=s3.heap.push {cls:=.type "slice",data:=.fields #[vl,.none,.int (k:Int) t]}}:=I3.kept (t':=s3.toks) λb ob q=>Heap.get?_push_of_some _ q
 show wpAny (model X.prog X.w) X.A (subscriptTail e (.Slice lo none (some _) p2) (.ref a) (.ref s3.heap.objs.size)) (EP X aj σ Q) X.xe {s3 with heap:=s3.heap.push {cls:=.type "slice",data:=.fields #[vl,.none,.int (k:Int) t]}}
 obtain⟨its,r,ht,hz⟩:=I4.list hx;have hlen:=r.length;refine tail_any (ops:=[.ref a,.ref s3.heap.objs.size]) ht.isList.typeIs slot_list_getitem.lookup ?_ (by with_unfolding_all rfl);have hsz:its.toArray.size=xs.length:=by rw[size_toArray];exact hlen.symm
 refine wpAny_getItem_list_slice ht.isList (Heap.IsSliceOf.new ..) pl .none (.int (k:Int) t) (by intro z;injection z with z;lia) ?_ (by rw[hsz];lia)
 have eb:sliceBounds l none (some (k:Int)) its.toArray.size=((n:Int),(xs.length:Int),(k:Int)):=by
  rw[hsz];have hk':(k:Int)>0:=by lia
  rcases hlo with⟨rfl,rfl⟩|rfl
  ·simp only[sliceBounds,Option.getD_some,hk',if_true];rfl
  ·simp only[sliceBounds,Option.getD_some,hk',if_true];rw[if_neg (by lia)]
   congr 1
   lia
 have ep:slicePick its.toArray l none (some (k:Int))=((((range ((xs.length-n+k-1)/k)).map λj=>n+k*j).filterMap λj=>its.toArray[j]?)).toArray:=by
  unfold slicePick;rw[eb];show((sliceRange (n:Int) (xs.length:Int) (k:Int)).filterMap _).toArray=_;rw[Rx n k xs.length O hn]
 rw[ep];have hle:(yp xs n k).length<=xs.length:=by
  have q:=sliceRange_length_le (n:Int) (xs.length:Int) (k:Int) xs.length (λu=>⟨by lia,Int.le_refl _⟩) (λz=>absurd (show(k:Int)>0 by lia) z);rw[Rx n k xs.length O hn] at q;unfold yp;exact le_trans (List.length_filterMap_le _ _) q
 refine⟨.ref _,_,I4.laid (t':=s3.toks) (o:=.aB (yp xs n k)) (λb ob q=>Heap.get?_push_of_some _ q) (Nat.le_refl _) ?_,rfl,q _ (I4.hok.fresh (Nat.le_refl _))⟩;exact⟨le_trans hle hz,_,0,vals_each r _,Heap.get?_push_size _ rfl⟩
def rBestD (K:Frag)(lt:Int->Int->Prop):V->V->Hp->VK->Prop:=λx y H Q=>∃(a:Addr) (ns:List Int) (d:Int),x=.ref a/\y=.int d/\aF K H a (ns.map V.int)/\(ns=[]->Q (.int d) H)/\∀m,m∈ns->(∀z,z∈ns->lt m z)->Q (.int m) H
def tBestD (K:Frag)(lt:Int->Int->Prop)(ta tb:TE):TE:=λσ H Q=>ta σ H λx H1=>tb σ H1 λy H2=>rBestD K lt x y H2 Q
theorem best_raw {d:Int}{t:Tok}{prog:Program}{w:World}{A:Around}{E:VS0}{s:Shared}{l:Addr}{its:List Value}{ns:List Int}{Q:VS0}(mx:Bool)(hh:A.handled=none)(hl:s.heap.IsList l its.toArray)(hi:IntsAre its ns)
  (h:∀h' tk M t',(∀b o,s.heap.get? b=some o->h'.get? b=some o)->(ns=[]/\M=d\/M∈ns/\∀z,z∈ns->if mx=true then z<=M else M<=z)->Q (.int M t') {s with heap:=h',toks:=tk}):wpAny (model prog w) A (call (.builtin (if mx=true then "max" else "min")) [.ref l] [(Str.ofString "default",.int d t)]) Q E s:=by
 obtain⟨xs,e⟩:=hi.allInts.items;have hn:numsOf (intItems xs).toList=ns:=by rw[<-e];exact hi.numsOf
 rw[nums_intItems] at hn;subst hn;rw[e] at hl;cases mx with
 |true=>
  refine PySem.MM.max_dflt hh hl λv h' tk hv O=>?_;rcases hv with⟨h0,hv⟩|⟨h0,rfl⟩
  ·obtain⟨t',rfl⟩:=intItems_at hv;obtain⟨h1,h2⟩:=argBest_gt (numAt xs) (xs.size-1);refine h h' tk _ t' O (.inr ⟨?_,λz hz=>?_⟩)
   ·rw[numAt_eq];exact PySem.getD_mem (by rw[length_map,Array.length_toList];lia)
   ·obtain⟨j,hj,rfl⟩:=mem_getD hz;rw[length_map,Array.length_toList] at hj;rw[<-numAt_eq];exact h2 j (by lia)
  ·exact h h' tk d _ O (.inl ⟨by rw[<-length_eq_zero_iff];simpa using h0,rfl⟩)
 |false=>
  refine PySem.MM.min_dflt hh hl λv h' tk hv O=>?_;rcases hv with⟨h0,hv⟩|⟨h0,rfl⟩
  ·obtain⟨t',rfl⟩:=intItems_at hv;obtain⟨h1,h2⟩:=argBest_lt (numAt xs) (xs.size-1);refine h h' tk _ t' O (.inr ⟨?_,λz hz=>?_⟩)
   ·rw[numAt_eq];exact PySem.getD_mem (by rw[length_map,Array.length_toList];lia)
   ·obtain⟨j,hj,rfl⟩:=mem_getD hz;rw[length_map,Array.length_toList] at hj;rw[<-numAt_eq];exact h2 j (by lia)
  ·exact h h' tk d _ O (.inl ⟨by rw[<-length_eq_zero_iff];simpa using h0,rfl⟩)
theorem Zi (mx:Bool){x:Str}{kp:Pos}(hc:X.calm=true)(hg:Gl X x)(hm:X.mg x=none)(hv:bootBuiltins x=some (.builtin (if mx=true then "max" else "min")))(ha:PE X a ta)(hb:PE X b tb)(hn:x≠"__name__":=by decide)(hdb:(x == ("__debug__":Str))=false:=by decide)
  (hs:starEach [a] X.env=[(false,eval a X.env)]:=by rfl)
  (he:backTo pos (starEach [a] X.env)=(false,eval a X.env)::backTo pos (starEach [] X.env):=by rfl) (hplain:(backTo pos (starEach [a] X.env)).any (·.1)=false:=by rfl)
  (hall:(backToKw pos (keywordEach [⟨some (Str.ofString "default"),b,kp⟩] X.env)).all (·.1.isSome)=true:=by rfl) (hkw:(backToKw pos (keywordEach [⟨some (Str.ofString "default"),b,kp⟩] X.env)).any (·.1.isNone)=false:=by rfl)
  (hz:(backToKw pos (keywordEach [⟨some (Str.ofString "default"),b,kp⟩] X.env)).filterMap (·.1)=[Str.ofString "default"]:=by rfl):
  PE X (.Call (.Name x p) [a] [⟨some (Str.ofString "default"),b,kp⟩] pos) (tBestD X.K (λm z=>if mx=true then z<=m else m<=z) ta tb):=by
 intro aj s σ H Q I h;refine wpAny_Call_Name_kw (pK I hg hm hv ?_ hn hdb);refine PyProof.Rows.callWith_kw ?_ he hplain hall hkw;have hA:PA X [a] (Je ta Cg):=bC ha dM hs
 refine bW (hA pos aj s σ H (λvs H1=>match vs with
  |[x]=>tb σ H1 λy H2=>rBestD X.K (λm z=>if mx=true then z<=m else m<=z) x y H2 Q
  |_=>False) I h) λus s1 ⟨vs,H1,I1,r1,q1⟩=>?_
 cases r1 with
 |nil=>exact q1.elim
 |cons rx rr=>
  cases rr with
  |cons _ _=>exact q1.elim
  |nil=>
   refine PyProof.Rows.kws_cons (bW (hb aj s1 σ H1 _ I1 q1) λkv s2 ⟨y,H2,I2,ry,l,ns,d,ex,ey,hl,q0,q2⟩=>PyProof.Rows.kws_nil ?_);subst ex ey;obtain⟨t,rfl⟩:=ry;cases rx;rw[hz];obtain⟨its,rv,hlt,_⟩:=I2.list hl;refine best_raw mx (I2.ok.hd hc) hlt.isList rv.ints λh' tk M t' O hM=>⟨.int M,H2,I2.kept O,⟨_,rfl⟩,?_⟩;rcases hM with⟨e,rfl⟩|⟨h1,h2⟩
   ·exact q0 e
   ·exact q2 M h1 h2
structure KD (K:Frag)(a:Addr)(kvs:List (Int×V)):Prop where
 ex:∃(es:List (Int×Tok×Value)) (d:Nat),K.lookup a=some ⟨.type "dict",none,.dict (es.map λz=>(⟨z.1,.int z.1 z.2.1,z.2.2⟩:DictEntry)).toArray d,#[]⟩/\Paired (λ(p:Int×V) (q:Int×Tok×Value)=>p.1=q.1/\RelV p.2 q.2.2/\hashInt q.1=q.1) kvs es
 nd:(kvs.map (·.1)).Nodup
 sys:(a == sysModules)=false
abbrev kI (kvs:List (Int×V)):List (Key×V):=kvs.map λp=>((Sum.inl p.1:Key),p.2)
theorem nd_inl:∀{l:List Int},l.Nodup->(l.map λz=>(Sum.inl z:Key)).Nodup
 |[],_=>List.nodup_nil
 |z::l,h=>by
  obtain⟨h1,h2⟩:=nodup_cons.mp h;rw[map_cons];refine nodup_cons.mpr ⟨λq=>?_,nd_inl h2⟩;obtain⟨y,hy,e⟩:=mem_map.mp q;injection e with e;exact h1 (e▸hy)
abbrev KDr:Int×V->Int×Tok×Value->Prop:=λp q=>p.1=q.1/\RelV p.2 q.2.2/\hashInt q.1=q.1
theorem KD.keys:∀{kvs:List (Int×V)}{es:List (Int×Tok×Value)},Paired KDr kvs es->es.map (·.1)=kvs.map (·.1)
 |_,_,.nil=>rfl
 |_,_,.cons r t=>by rw[map_cons,map_cons,KD.keys t,r.1]
theorem KD.kv:∀{kvs:List (Int×V)}{es:List (Int×Tok×Value)},Paired KDr kvs es->KV (kI kvs) (es.map λz=>((Sum.inl z.1:Key),z.2.2))
 |_,_,.nil=>.nil
 |_,_,.cons r t=>.cons ⟨congrArg Sum.inl r.1,r.2.1⟩ (KD.kv t)
theorem KD.hash:∀{kvs:List (Int×V)}{es:List (Int×Tok×Value)},Paired KDr kvs es->∀{z:Int×Tok×Value},z∈es->hashInt z.1=z.1
 |_,_,.nil,z,hz=>by cases hz
 |_,_,.cons r t,z,hz=>by
  rcases mem_cons.mp hz with q|q
  ·subst q;exact r.2.2
  ·exact KD.hash t q
theorem KD.dict {aj:LO0}{σ:St}{H:Hp}{s:Shared}{l:Addr}{kvs:List (Int×V)}(I:Inv X aj σ H s)(h:KD X.K l kvs):∃vs,KV (kI kvs) vs/\s.heap.DictOf (oV X.prog X.w) l vs:=by
 obtain⟨es,d,O,hp⟩:=h.ex;have e1:es.map (·.1)=kvs.map (·.1):=KD.keys hp;refine⟨es.map λz=>((Sum.inl z.1:Key),z.2.2),?_,_,_,d,I.sG _ _ O,⟨rfl,rfl,rfl⟩,rfl,?_,?_,?_⟩
 ·exact KD.kv hp
 ·intro e he;have he:e∈es.map λz=>(⟨z.1,.int z.1 z.2.1,z.2.2⟩:DictEntry):=by simpa using he
  obtain⟨z,hz,rfl⟩:=mem_map.mp he;have hh:hashInt z.1=z.1:=KD.hash hp hz;exact⟨Sum.inl z.1,Fx z.1 z.2.1,hh.symm⟩
 ·show Pairs (oV X.prog X.w) (es.map λz=>(⟨z.1,.int z.1 z.2.1,z.2.2⟩:DictEntry)) _;clear O e1 hp
  induction es with
  |nil=>exact .nil
  |cons z es ih=>exact .cons (Fx z.1 z.2.1) rfl ih
 ·have e2:(es.map λz=>((Sum.inl z.1:Key),z.2.2)).map (·.1)=(es.map (·.1)).map λz=>(Sum.inl z:Key):=by rw[map_map,map_map];rfl
  rw[e2,e1];exact nd_inl h.nd
noncomputable def wj (kvs:List (Int×V))(z:Int):Option V:=(kvs.find? λkv=>decide (kv.1=z)).map (·.2)
theorem Jq (z:Int):∀kvs:List (Int×V),qZ (kI kvs) (Sum.inl z)=wj kvs z
 |[]=>rfl
 |p::l=>by
  have ih:=Jq z l;unfold qZ wj at ih⊢;show Option.map _ (List.find? _ ((Sum.inl p.1,p.2)::kI l))=_;rw[find?_cons,find?_cons];by_cases e:p.1=z
  ·simp[e]
  ·have e2:¬(Sum.inl p.1:Key)=Sum.inl z:=λq=>e (Sum.inl.inj q);simp only[decide_eq_false e,decide_eq_false e2];exact ih
def tKGet (K:Frag)(td ty:TE):TE:=λσ H Q=>td σ H λx H1=>ty σ H1 λy H2=>∃l kvs z v,x=.ref l/\y=.int z/\KD K l kvs/\wj kvs z=some v/\Q v H2
def tKIn (K:Frag)(neg:Bool)(ty td:TE):TE:=λσ H Q=>ty σ H λy H1=>td σ H1 λx H2=>∃l kvs z,x=.ref l/\y=.int z/\KD K l kvs/\Q (.bl (if neg=true then !(wj kvs z).isSome else(wj kvs z).isSome)) H2
theorem Jr (ho:PE X o td)(hi:PE X i ty)(hs:NoSl i):PE X (.Subscript o i pos) (tKGet X.K td ty):=by
 intro aj s σ H Q I h;refine subD_of PySem.F.slot_dict_getitem.lookup hs (bW (ho aj s σ H _ I h) λu s1 ⟨x,H1,I1,rx,q1⟩=>bW (hi aj s1 σ H1 _ I1 q1) λiv s2 ⟨y,H2,I2,ry,l,kvs,z,v,ex,ey,hd,hv,q2⟩=>?_);subst ex ey;obtain rfl:u=Value.ref l:=rx;obtain⟨vs,rel,dd⟩:=hd.dict I2;refine⟨dd.typeIs,?_⟩;have hv':qZ (kI kvs) (Sum.inl z)=some v:=by rw[Jq];exact hv
 obtain⟨w',hw,rw'⟩:=mK.some_of (v:=v) (o:=valueAt vs (Sum.inl z)) (by rw[<-hv'];exact rel.val (Sum.inl z));exact wpAny_getItem_of (kV_is (k:=Sum.inl z) ry) dd.mapOf hw ⟨v,H2,I2.tok _,rw',q2⟩
theorem pc_kin (hi:PE X i ty)(ho:PE X o td):PC X .In i o (tKIn X.K false ty td):=by
 intro aj s σ H Q I h;refine bW (hi aj s σ H _ I h) λiv s1 ⟨y,H1,I1,ry,q1⟩=>bW (ho aj s1 σ H1 _ I1 q1) λu s2 ⟨x,H2,I2,rx,l,kvs,z,ex,ey,hd,q2⟩=>?_;subst ex ey;obtain rfl:u=Value.ref l:=rx;obtain⟨vs,rel,dd⟩:=hd.dict I2;refine wpAny_in_of (kV_is (k:=Sum.inl z) ry) hd.sys dd.mapOf ?_;rw[<-(rel.val (Sum.inl z)).Rp,Jq];exact⟨.bl _,H2,I2.tok _,rfl,q2⟩
theorem pc_knotin (hi:PE X i ty)(ho:PE X o td):PC X .NotIn i o (tKIn X.K true ty td):=by
 intro aj s σ H Q I h;refine bW (hi aj s σ H _ I h) λiv s1 ⟨y,H1,I1,ry,q1⟩=>bW (ho aj s1 σ H1 _ I1 q1) λu s2 ⟨x,H2,I2,rx,l,kvs,z,ex,ey,hd,q2⟩=>?_;subst ex ey;obtain rfl:u=Value.ref l:=rx;obtain⟨vs,rel,dd⟩:=hd.dict I2;refine wpAny_notIn_of (kV_is (k:=Sum.inl z) ry) hd.sys dd.mapOf ?_;rw[<-(rel.val (Sum.inl z)).Rp,Jq];exact⟨.bl _,H2,I2.tok _,rfl,q2⟩
end
theorem Qe {K:Frag}{a b:Addr}{xs ys:List V}{g:TG}{tb:TS}{D:Ends}{σ:St}{H:Hp}(Pv:Nat->St->Hp->Prop)(h0:Pv 0 σ H)(hl:∀i σ H,Pv i σ H->aF K H a xs/\aF K H b ys)(hn:xs.length=ys.length)
  (hs:∀i x y σ H T,xs[i]? =some x->ys[i]? =some y->Pv i σ H->H T=none->g (.ref T) σ (aN H T (.tup [x,y])) λσ2 H2=>tb {D with nx:=Pv (i+1),ct:=Pv (i+1),bk:=D.nx} σ2 H2) (hd:∀σ H,Pv xs.length σ H->D.nx σ H):
  ∃W:Nat->Nat->St->Hp->Prop,(∃m,W 0 m σ H)/\∀i m σ H,W i m σ H->
   ((Zb K a b).stop i H/\D.nx σ H)\/((Zb K a b).go i H/\∃N:St->Hp->Prop,(∀σ' Z,N σ' Z->∃m',m'<m/\W (i+1) m' σ' Z)/\∀x Z,(Zb K a b).zX i H x Z->g x σ Z λσ2 H2=>tb {D with nx:=N,ct:=N,bk:=D.nx} σ2 H2):=by
 refine⟨λi m σ H=>m=xs.length-i/\i<=xs.length/\Pv i σ H,⟨xs.length,by simp,zero_le _,h0⟩,?_⟩;rintro i m σ H ⟨rfl,hi,p⟩;obtain⟨q1,q2⟩:=hl i σ H p;by_cases lt:i<xs.length
 ·refine .inr ⟨⟨xs,ys,xs[i],ys[i]'(by lia),q1,q2,by simp[lt],by simp[hn▸lt]⟩,Pv (i+1),λσ' Z p'=>⟨xs.length-(i+1),by lia,rfl,lt,p'⟩,λv Z z=>?_⟩;obtain⟨T,x,y,rfl,nT,rfl,z1,z2⟩:=z;exact hs i x y σ H T (z1 xs q1) (z2 ys q2) p nT
 ·have e:i=xs.length:=by lia
  subst e;exact .inl ⟨⟨xs,ys,q1,q2,.inl (Nat.le_refl _)⟩,hd σ H p⟩
theorem for_enum {K:Frag}{a:Addr}{xs:List V}{g:TG}{tb:TS}{D:Ends}{σ:St}{H:Hp}(Pv:Nat->St->Hp->Prop)(h0:Pv 0 σ H)(hl:∀i σ H,Pv i σ H->aF K H a xs)
  (hs:∀i x σ H T,xs[i]? =some x->Pv i σ H->H T=none->g (.ref T) σ (aN H T (.tup [.int (i:Nat),x])) λσ2 H2=>tb {D with nx:=Pv (i+1),ct:=Pv (i+1),bk:=D.nx} σ2 H2) (hd:∀σ H,Pv xs.length σ H->D.nx σ H):
  ∃W:Nat->Nat->St->Hp->Prop,(∃m,W 0 m σ H)/\∀i m σ H,W i m σ H->
   ((Ite K a).stop i H/\D.nx σ H)\/((Ite K a).go i H/\∃N:St->Hp->Prop,(∀σ' Z,N σ' Z->∃m',m'<m/\W (i+1) m' σ' Z)/\∀x Z,(Ite K a).zX i H x Z->g x σ Z λσ2 H2=>tb {D with nx:=N,ct:=N,bk:=D.nx} σ2 H2):=by
 refine⟨λi m σ H=>m=xs.length-i/\i<=xs.length/\Pv i σ H,⟨xs.length,by simp,zero_le _,h0⟩,?_⟩;rintro i m σ H ⟨rfl,hi,p⟩;have q1:=hl i σ H p;by_cases lt:i<xs.length
 ·refine .inr ⟨⟨xs,xs[i],q1,by simp[lt]⟩,Pv (i+1),λσ' Z p'=>⟨xs.length-(i+1),by lia,rfl,lt,p'⟩,λv Z z=>?_⟩;obtain⟨T,x,rfl,nT,rfl,z1⟩:=z;exact hs i x σ H T (z1 xs q1) p nT
 ·have e:i=xs.length:=by lia
  subst e;exact .inl ⟨⟨xs,q1,Nat.le_refl _⟩,hd σ H p⟩
theorem for_rev {K:Frag}{a:Addr}{xs:List V}{g:TG}{tb:TS}{D:Ends}{σ:St}{H:Hp}(Pv:Nat->St->Hp->Prop)(h0:Pv 0 σ H)(hl:∀i σ H,Pv i σ H->aF K H a xs)
  (hs:∀i x σ H,i<xs.length->xs[xs.length-1-i]? =some x->Pv i σ H->g x σ H λσ2 H2=>tb {D with nx:=Pv (i+1),ct:=Pv (i+1),bk:=D.nx} σ2 H2) (hd:∀σ H,Pv xs.length σ H->D.nx σ H):
  ∃W:Nat->Nat->St->Hp->Prop,(∃m,W 0 m σ H)/\∀i m σ H,W i m σ H->
   ((Itv K a xs.length).stop i H/\D.nx σ H)\/((Itv K a xs.length).go i H/\∃N:St->Hp->Prop,(∀σ' Z,N σ' Z->∃m',m'<m/\W (i+1) m' σ' Z)/\∀x Z,(Itv K a xs.length).zX i H x Z->g x σ Z λσ2 H2=>tb {D with nx:=N,ct:=N,bk:=D.nx} σ2 H2):=by
 refine⟨λi m σ H=>m=xs.length-i/\i<=xs.length/\Pv i σ H,⟨xs.length,by simp,zero_le _,h0⟩,?_⟩;rintro i m σ H ⟨rfl,hi,p⟩;have q1:=hl i σ H p;by_cases lt:i<xs.length
 ·refine .inr ⟨⟨lt,xs,xs[xs.length-1-i]'(by lia),q1,by simp⟩,Pv (i+1),λσ' Z p'=>⟨xs.length-(i+1),by lia,rfl,lt,p'⟩,λv Z z=>?_⟩;obtain⟨rfl,z1⟩:=z;exact hs i v σ _ lt (z1 xs q1) p
 ·have e:i=xs.length:=by lia
  subst e;exact .inl ⟨Nat.le_refl _,hd σ H p⟩
def LCb (J:It)(g:TG)(tt:TT)(te:TE)(vs:List Nat)(σ:St)(H1:Hp)(Q:VK):Prop:=∀D,H1 D=none->∃W:Nat->Nat->Hp->Prop,(∃m,W 0 m (aN H1 D (.aB [])))/\∀i m H,W i m H->
 (J.stop i H/\Q (.ref D) H)\/(J.go i H/\∃Nx:Hp->Prop,(∀Z,Nx Z->∃m',m'<m/\W (i+1) m' Z)/\∀x Z,J.zX i H x Z->g x (wipe σ vs) Z λσ2 H2=>wipe σ2 vs=wipe σ vs/\tt σ2 H2 λb H3=> if b=true then te σ2 H3 λy H4=>∃acc,H4 D=some (.aB acc)/\acc.length<sizeLine/\Nx (aN H4 D (.aB (acc++[y]))) else Nx H3)
theorem tLc_b {wi:TI}{g:TG}{tt:TT}{te:TE}{vs:List Nat}{σ:St}{H:Hp}{Q:VK}:tLc wi g tt te vs σ H Q=wi σ H λJ H1=>LCb J g tt te vs σ H1 Q:=rfl
def FRb (J:It)(g:TG)(tb:TS)(D:Ends)(σ:St)(H1:Hp):Prop:=∃W:Nat->Nat->St->Hp->Prop,(∃m,W 0 m σ H1)/\∀i m σ H,W i m σ H->
 (J.stop i H/\D.nx σ H)\/(J.go i H/\∃N:St->Hp->Prop,(∀σ' Z,N σ' Z->∃m',m'<m/\W (i+1) m' σ' Z)/\∀x Z,J.zX i H x Z->g x σ Z λσ2 H2=>tb {D with nx:=N,ct:=N,bk:=D.nx} σ2 H2)
theorem eH {wi:TI}{g:TG}{tb:TS}{D:Ends}{σ:St}{H:Hp}:tFor wi g tb D σ H=wi σ H λJ H1=>FRb J g tb D σ H1:=rfl
section
variable {K:Frag}{te:TE}{vs:List Nat}{σ:St}{H1:Hp}{Q:VK}
theorem RB {a:Addr}{xs:List V}{j:Nat}(F:Nat->V)(hl:aF K H1 a xs)(hn:xs.length<sizeLine)(hw2:∀v,wipe ((wipe σ vs).set j (some v)) vs=wipe σ vs)
  (hs:∀i x Z (N:VK),xs[i]? =some x->aA H1 Z->(∀H4,aA Z H4->N (F i) H4)->te ((wipe σ vs).set j (some x)) Z N)
  (out:∀D Z,H1 D=none->aA H1 Z->Z D=some (.aB ((range xs.length).map F))->Q (.ref D) Z):
  LCb (MJ K a) (pN j) Vs te vs σ H1 Q:=by
 intro D nD;refine lc_list (K:=K) (a:=a) (xs:=xs) (λi H=>aA H1 H/\H D=some (.aB ((range i).map F))) ⟨aA.laid nD,by rw[ao];rfl⟩ (λi H z p=>p.1.seq hl) ?_ (λH p=>out D H nD p.1 p.2);rintro i x H hx ⟨s1,hD⟩;refine⟨hw2 x,?_⟩;show te _ H _;refine hs i x H _ hx s1 λH4 s4=>⟨(range i).map F,s4 _ _ hD,?_,?_,?_⟩
 ·have:=(List.getElem?_eq_some_iff.mp hx).1;rw[length_map,length_range];lia
 ·intro b o e;rw[aO (aW e nD)];exact s4 _ _ (s1 _ _ e)
 ·rw[ao,range_succ,map_append];rfl
theorem lcR {lo:Int}{n j:Nat}(F:Nat->V)(hn:n<sizeLine)(hw2:∀v,wipe ((wipe σ vs).set j (some v)) vs=wipe σ vs)
  (hs:∀i Z (N:VK),i<n->aA H1 Z->(∀H4,aA Z H4->N (F i) H4)->te ((wipe σ vs).set j (some (.int (lo+i)))) Z N)
  (out:∀D Z,H1 D=none->aA H1 Z->Z D=some (.aB ((range n).map F))->Q (.ref D) Z):
  LCb (DY lo n) (pN j) Vs te vs σ H1 Q:=by
 intro D nD;refine K8 (λi H=>aA H1 H/\H D=some (.aB ((range i).map F))) ⟨aA.laid nD,by rw[ao];rfl⟩ ?_ (λH p=>out D H nD p.1 p.2);rintro i H hx ⟨s1,hD⟩;refine⟨hw2 _,?_⟩;show te _ H _;refine hs i H _ hx s1 λH4 s4=>⟨(range i).map F,s4 _ _ hD,?_,?_,?_⟩
 ·rw[length_map,length_range];lia
 ·intro b o e;rw[aO (aW e nD)];exact s4 _ _ (s1 _ _ e)
 ·rw[ao,range_succ,map_append];rfl
theorem lcZ {a b:Addr}{xs ys:List V}{j k:Nat}(F:Nat->V)(hl:aF K H1 a xs)(hm:aF K H1 b ys)(hxy:xs.length=ys.length)(hn:xs.length<sizeLine)(hw2:∀v u,wipe (((wipe σ vs).set j (some v)).set k (some u)) vs=wipe σ vs)
  (hs:∀i x y Z (N:VK),xs[i]? =some x->ys[i]? =some y->aA H1 Z->(∀H4,aA Z H4->N (F i) H4)->te (((wipe σ vs).set j (some x)).set k (some y)) Z N)
  (out:∀D Z,H1 D=none->aA H1 Z->Z D=some (.aB ((range xs.length).map F))->Q (.ref D) Z):
  LCb (Zb K a b) (gTup K 2 (gCons (pN j) (gCons (pN k) gNil))) Vs te vs σ H1 Q:=by
 intro D nD;refine⟨λi m H=>m=xs.length-i/\i<=xs.length/\aA H1 H/\H D=some (.aB ((range i).map F)),⟨xs.length,by simp,zero_le _,aA.laid nD,by rw[ao];rfl⟩,?_⟩;rintro i m H ⟨rfl,hi,s1,hD⟩;have q1:=s1.seq hl;have q2:=s1.seq hm;by_cases lt:i<xs.length
 ·refine .inr ⟨⟨xs,ys,xs[i],ys[i]'(by lia),q1,q2,by simp[lt],by simp[hxy▸lt]⟩,λZ=>aA H1 Z/\Z D=some (.aB ((range (i+1)).map F)),λZ p'=>⟨xs.length-(i+1),by lia,rfl,lt,p'⟩,λv Z z=>?_⟩;obtain⟨T,x,y,rfl,nT,rfl,z1,z2⟩:=z;have sT:aA H (aN H T (.tup [x,y])):=aA.laid nT;refine⟨T,[x,y],rfl,bR.of ao,rfl,x,[y],rfl,y,[],rfl,rfl,hw2 x y,?_⟩;show te _ _ _;refine hs i x y _ _ (z1 xs q1) (z2 ys q2) (s1.trans sT) λH4 s4=>⟨(range i).map F,s4 _ _ (sT _ _ hD),?_,?_,?_⟩
  ·rw[length_map,length_range];lia
  ·intro b o e;rw[aO (aW e nD)];exact s4 _ _ (sT _ _ (s1 _ _ e))
  ·rw[ao,range_succ,map_append];rfl
 ·have e:i=xs.length:=by lia
  subst e;exact .inl ⟨⟨xs,ys,q1,q2,.inl (Nat.le_refl _)⟩,out D H nD s1 hD⟩
end
end L2
namespace L2
section
variable {te:TE}{vs:List Nat}{σ:St}{H1:Hp}{Q:VK}
theorem lcRows {lo:Int}{n j:Nat}(L:Nat->List V)(hn:n<sizeLine)(hw2:∀v,wipe ((wipe σ vs).set j (some v)) vs=wipe σ vs)
  (hs:∀i Z (N:VK),i<n->aA H1 Z->(∀p H4,aA Z H4->Z p=none->H4 p=some (.aB (L i))->N (.ref p) H4)->te ((wipe σ vs).set j (some (.int (lo+i)))) Z N)
  (out:∀D Z (as:List Addr),H1 D=none->aA H1 Z->Z D=some (.aB (as.map V.ref))->as.length=n->(∀i p,as[i]? =some p->H1 p=none/\Z p=some (.aB (L i)))->Q (.ref D) Z):
  LCb (DY lo n) (pN j) Vs te vs σ H1 Q:=by
 intro D nD;refine K8 (λi H=>aA H1 H/\∃as:List Addr,as.length=i/\H D=some (.aB (as.map V.ref))/\∀t p,as[t]? =some p->p≠D/\H1 p=none/\H p=some (.aB (L t))) ⟨aA.laid nD,[],rfl,by rw[ao];rfl,λt p h=>by simp at h⟩ ?_ (λH p=>?_)
 ·rintro i H hi ⟨s1,as,ha,hD,hp⟩;refine⟨hw2 _,?_⟩;show te _ H _;refine hs i H _ hi s1 λp H4 s4 np hp4=>⟨as.map V.ref,s4 _ _ hD,?_,?_,as++[p],?_,?_,?_⟩
  ·rw[length_map];lia
  ·intro b o e;rw[aO (aW e nD)];exact s4 _ _ (s1 _ _ e)
  ·rw[length_append,ha];rfl
  ·rw[ao,map_append];rfl
  ·have npD:p≠D:=λe=>by rw[e,hD] at np;cases np
   intro t z hz;by_cases ht:t<as.length
   ·rw[getElem?_append_left ht] at hz;obtain⟨h1,h2,h3⟩:=hp t z hz;exact⟨h1,h2,by rw[aO h1];exact s4 _ _ h3⟩
   ·rw[getElem?_append_right (by lia)] at hz;have ht':t=as.length:=by
     have:=(List.getElem?_eq_some_iff.mp hz).1;simp at this;lia
    subst ht';rw[Nat.sub_self] at hz;injection hz with hz
    subst hz;exact⟨npD,s1.free np,by rw[aO npD,ha];exact hp4⟩
 ·obtain⟨s1,as,ha,hD,hp⟩:=p;exact out D H as nD s1 hD ha λi p h=>(hp i p h).2
end
end L2
namespace L2
section
variable {X:Cx}{K:Frag}
theorem z7 {e:Expr}{f:Str}{ta:TE}{pos:Pos}(hK:X.K=K)(he:PE X e ta)(hb:attributeBase e f X.env (eval e X.env)=eval e X.env):PE X (.Attribute e f pos) (tFld K ta f):=by
 subst hK;exact aQ he hb
theorem z8 {es:List Expr}{k:Nat}{t:Rg}{n:Nat}{pos:Pos}(hK:X.K=K)(hc:X.calm=true)(h:PGs X es t)
  (hn:(assignEach es X.env).length=n:=by rfl) (hst:(assignEach es X.env).findIdx? (·.1)=none:=by rfl):PG X (.Tuple es k pos) (gTup K n t):=by
 subst hK;exact FQ hc h hn hst
theorem VD (hK:X.K=K):IxR X (Vo K):=by subst hK;exact aH
theorem ix_tupK (hK:X.K=K):IxR X (PN K):=by subst hK;exact bT
theorem pe_slice3K {e st:Expr}{lo:Option Expr}{te ts:TE}{tl:TO}{pos p2:Pos}(hK:X.K=K)(he:PE X e te)(hl:PO X lo tl)(hs:PE X st ts):PE X (.Subscript e (.Slice lo none (some st) p2) pos) (tSl3 K te tl ts):=by
 subst hK;exact Ry he hl hs
def Zj (P:Program)(w:World)(K:Frag)(mg:Str->Option Value)(aq:Heap)(A:Around)(tf:TE)(t:TA):TE:=λσ H Q=>tf σ H λx H1=>∃f,x=.ref f/\keepIn K (.ref f)=true/\t σ H1 λvs H2=>
 ∃k fd ps sp,cW k A/\Binds K fd ps []/\gJ P w K mg aq vZ k f fd ps sp/\sp vs H2 Q E0
theorem pe_callVK {P:Program}{w:World}{mg:Str->Option Value}{aq:Heap}{A:Around}{j:Nat}{fe e:Expr}{es:List Expr}{tf:TE}{t:TA}{pos:Pos}(hr:cW j A)(hK:X.prog=P/\X.w=w/\X.K=K/\X.mg=mg/\X.aq=aq/\X.A=A)(hf:PE X fe tf)(ha:PA X (e::es) t)
  (he:starEach (e::es) X.env=(false,eval e X.env)::starEach es X.env:=by rfl) (hpl:(backTo pos (starEach es X.env)).any (·.1)=false:=by rfl)
  (ht:eval (.Call fe (e::es) [] pos) X.env=(do callWith pos (<-eval fe X.env) [] (backTo pos (starEach (e::es) X.env)) (backToKw pos (keywordEach [] X.env))):=by rfl):
  PE X (.Call fe (e::es) [] pos) (Zj P w K mg aq A tf t):=by
 obtain⟨rfl,rfl,rfl,rfl,rfl,rfl⟩:=hK;exact jT hf ha he hpl ht
end
end L2
end
namespace Poly
open GridTalk
abbrev B:=BitVec 64
noncomputable def Xb (m p:B):B:=(p<<<1) ^^^ (if p.msb then m else 0#64)
theorem Js (m:B):Xb m 0#64=0#64:=by simp[Xb]
theorem z9 (m p q:B):Xb m (p ^^^ q)=Xb m p ^^^ Xb m q:=by
 unfold Xb;rw[BitVec.msb_xor,BitVec.shiftLeft_xor_distrib];cases p.msb<;>cases q.msb<;>simp
 ·ac_rfl
 ·ac_rfl
 ·have h:m ^^^ (q<<<1 ^^^ m)=q<<<1:=by rw[<-BitVec.xor_assoc,xor_comm m,BitVec.xor_assoc,BitVec.xor_self,BitVec.xor_zero]
  rw[BitVec.xor_assoc,h]
def Xn (m:B):Nat->B->B
 |0,a=>a
 |k+1,a=>Xb m (Xn m k a)
theorem rB (m:B):∀k,Xn m k 0#64=0#64
 |0=>rfl
 |k+1=>by rw[Xn,rB m k,Js]
theorem Aa (m:B):∀k a b,Xn m k (a ^^^ b)=Xn m k a ^^^ Xn m k b
 |0,_,_=>rfl
 |k+1,a,b=>by rw[Xn,Aa m k,z9];rfl
theorem Uz (m:B):∀k a,Xn m k (Xb m a)=Xb m (Xn m k a)
 |0,_=>rfl
 |k+1,a=>by rw[Xn,Uz m k];rfl
theorem Zk (m:B)(j:Nat):∀k a,Xn m j (Xn m k a)=Xn m k (Xn m j a)
 |0,_=>rfl
 |k+1,a=>by rw[Xn,Uz,Zk m j k];rfl
theorem Nq (m:B):∀k,k<64->Xn m k 1#64=twoPow 64 k
 |0,_=>by show 1#64=twoPow 64 0;decide
 |k+1,h=>by
  rw[Xn,Nq m k (by lia),Xb];have e:(twoPow 64 k).msb=false:=by
   rw[BitVec.msb_twoPow];simp;lia
  rw[e];simp;apply eq_of_getLsbD_eq;intro i hi;simp[getLsbD_shiftLeft,BitVec.getLsbD_twoPow];by_cases h0:i=0
  ·subst h0;simp
  ·have O:k<64:=by lia
   by_cases q:k=i-1
   ·obtain rfl:i=k+1:=by lia
    simp[O,h]
   ·have q2:¬k+1=i:=by lia
    simp[q2,q]
theorem Xn_64 (m:B):Xn m 64 1#64=m:=by
 rw[Xn,Nq m 63 (by lia),Xb];have e:(twoPow 64 63).msb=true:=by decide
 have e2:(twoPow 64 63)<<<1=0#64:=by decide
 rw[e,e2];simp
theorem VF (m w:B):∀k,k<=64->Xn m k w=(w<<<k) ^^^ Xn m 64 (w>>>(64-k))
 |0,_=>by
  have e:w>>>(64-0)=0#64:=by
   apply eq_of_getLsbD_eq;intro i hi;simp
  rw[e,rB];simp[Xn]
 |k+1,h=>by
  have O:k<64:=by lia
  rw[Xn,VF m w k (by lia),z9, <-Uz];have e1:Xb m (w>>>(64-k))=(w>>>(64-k))<<<1:=by
   have q:(w>>>(64-k)).msb=false:=by
    rw[msb_eq_getLsbD_last,getLsbD_ushiftRight];apply getLsbD_of_ge;lia
   unfold Xb;rw[q];simp
  have e2:w>>>(64-(k+1))=((w>>>(64-k))<<<1) ^^^ (if w.getLsbD (63-k) then 1#64 else 0#64):=by
   apply eq_of_getLsbD_eq;intro i hi;rw[getLsbD_xor,getLsbD_ushiftRight,getLsbD_shiftLeft,getLsbD_ushiftRight];by_cases h0:i=0
   ·subst h0;have:64-(k+1)+0=63-k:=by lia
    rw[this];cases w.getLsbD (63-k)<;>simp
   ·have a1:64-(k+1)+i=64-k+(i-1):=by lia
    have a2:(if w.getLsbD (63-k) then 1#64 else 0#64).getLsbD i=false:=by
     split
     ·rw[getLsbD_one];simp;lia
     ·simp
    rw[a1,a2];simp[hi];lia
  have e3:Xb m (w<<<k)=(w<<<(k+1)) ^^^ (if w.getLsbD (63-k) then m else 0#64):=by
   unfold Xb;have q:(w<<<k).msb=w.getLsbD (63-k):=by
    rw[msb_eq_getLsbD_last,getLsbD_shiftLeft];simp;lia
   rw[q,BitVec.shiftLeft_add]
  rw[e1,e3,e2,Aa,BitVec.xor_assoc]
  congr 1
  cases w.getLsbD (63-k)
  ·simp[rB]
  ·simp[Xn_64];ac_rfl
def low (f:Nat)(h:B):B:=BitVec.ofNat 64 (h.toNat%2^f)
theorem kJ (f:Nat)(h:B)(i:Nat):(low f h).getLsbD i=(decide (i<f)&&h.getLsbD i):=by
 unfold low;rw[getLsbD_ofNat,Nat.testBit_mod_two_pow];by_cases hi:i<64
 ·simp[hi,getLsbD]
 ·simp[hi,getLsbD_of_ge h i (by lia)]
theorem low_64 (h:B):low 64 h=h:=by
 apply eq_of_getLsbD_eq;intro i hi;rw[kJ];simp[hi]
theorem VG (h:B):low 0 h=0#64:=by
 apply eq_of_getLsbD_eq;intro i hi;rw[kJ];simp
theorem VH (f:Nat)(h:B)(hf:f<64):low (f+1) h=low f h ^^^ (if h.getLsbD f then twoPow 64 f else 0#64):=by
 apply eq_of_getLsbD_eq;intro i hi;rw[getLsbD_xor,kJ,kJ];by_cases e:i=f
 ·subst e;cases hb:h.getLsbD i<;>simp[hi]
 ·have a:(if h.getLsbD f then twoPow 64 f else 0#64).getLsbD i=false:=by
   split
   ·rw[BitVec.getLsbD_twoPow];simp;lia
   ·simp
  rw[a];by_cases q:i<f
  ·simp[q];lia
  ·have:¬i<f+1:=by lia
   simp[q,this]
theorem Yr (f:Nat)(h m:B)(hf:f<64):low f (h ^^^ (if f=0 then 0#64 else m>>>(64-f)))=low f h ^^^ (m>>>(64-f)):=by
 apply eq_of_getLsbD_eq;intro i hi;rw[getLsbD_xor,kJ,kJ,getLsbD_xor,getLsbD_ushiftRight];by_cases q:i<f
 ·have:f≠0:=by lia
  simp[q,this,getLsbD_ushiftRight]
 ·simp[q];apply getLsbD_of_ge;lia
theorem VJ (m:UInt64):∀(f:Nat) (hi lo:UInt64),f<=64->(reducedFrom m f hi lo).toBitVec=lo.toBitVec ^^^ Xn m.toBitVec 64 (low f hi.toBitVec)
 |0,hi,lo,_=>by rw[reducedFrom,VG,rB];simp
 |f+1,hi,lo,h=>by
  have hf:f<64:=by lia
  have hbit:((hi>>>UInt64.ofNat f)&&& 1=1)↔hi.toBitVec.getLsbD f=true:=by
   rw[<-UInt64.toBitVec_inj];have e:((hi>>>UInt64.ofNat f)&&& 1).toBitVec=(hi.toBitVec>>>f)&&& 1#64:=by
    rw[UInt64.toBitVec_and,toBitVec_shiftRight];have:((UInt64.ofNat f).toBitVec%64#64)=BitVec.ofNat 64 f:=by
     apply eq_of_toNat_eq;simp;lia
    show hi.toBitVec>>>((UInt64.ofNat f).toBitVec%64#64)&&& 1#64=_;rw[this]
    congr 1
    rw[BitVec.ushiftRight_eq']
    congr 1
    simp;lia
   rw[e];have e1:(1:UInt64).toBitVec=1#64:=rfl;rw[e1];constructor
   ·intro q;have:=congrArg (λz=>getLsbD z 0) q;simpa using this
   ·intro q;apply eq_of_getLsbD_eq;intro i hi2;by_cases h0:i=0
    ·subst h0;simp[q]
    ·simp[getLsbD_one,h0]
  have hsh:∀a:UInt64,(a<<<UInt64.ofNat f).toBitVec=a.toBitVec<<<f:=by
   intro a;rw[UInt64.toBitVec_shiftLeft];have:((UInt64.ofNat f).toBitVec%64#64)=BitVec.ofNat 64 f:=by
    apply eq_of_toNat_eq;simp;lia
   show a.toBitVec<<<((UInt64.ofNat f).toBitVec%64#64)=_;rw[this,BitVec.shiftLeft_eq']
   congr 1
   simp;lia
  have hsr:∀a:UInt64,f≠0->(a>>>(64-UInt64.ofNat f)).toBitVec=a.toBitVec>>>(64-f):=by
   intro a h0;rw[toBitVec_shiftRight];have:((64-UInt64.ofNat f).toBitVec%64#64)=BitVec.ofNat 64 (64-f):=by
    apply eq_of_toNat_eq;rw[UInt64.toBitVec_sub];simp[BitVec.toNat_sub];lia
   show a.toBitVec>>>((64-UInt64.ofNat f).toBitVec%64#64)=_;rw[this,BitVec.ushiftRight_eq']
   congr 1
   simp;lia
  show(if (hi>>>UInt64.ofNat f)&&& 1=1 then reducedFrom m f (hi ^^^ (if f=0 then 0 else m>>>(64-UInt64.ofNat f))) (lo ^^^ (m<<<UInt64.ofNat f)) else reducedFrom m f hi lo).toBitVec=_;rw[VH f _ hf,Aa];by_cases hb:hi.toBitVec.getLsbD f=true
  ·rw[if_pos (hbit.mpr hb),VJ m f _ _ (by lia),if_pos hb];have e1:(hi ^^^ (if f=0 then 0 else m>>>(64-UInt64.ofNat f))).toBitVec=hi.toBitVec ^^^ (if f=0 then 0#64 else m.toBitVec>>>(64-f)):=by
    rw[toBitVec_xor];by_cases h0:f=0
    ·rw[if_pos h0,if_pos h0];rfl
    ·rw[if_neg h0,if_neg h0,hsr m h0]
   rw[e1,Yr f _ _ hf,toBitVec_xor,hsh,Aa];rw[<-Nq m.toBitVec f hf,Zk,Xn_64,VF m.toBitVec m.toBitVec f (by lia)];ac_rfl
  ·have hb':hi.toBitVec.getLsbD f=false:=by simpa using hb
   rw[if_neg (λq=>hb (hbit.mp q)),VJ m f _ _ (by lia),hb'];simp[rB]
def phi (m h l:B):B:=l ^^^ Xn m 64 h
theorem bit0 (y:UInt64):(y&&& 1=1)↔y.toBitVec.getLsbD 0=true:=by
 rw[<-UInt64.toBitVec_inj,UInt64.toBitVec_and];have e1:(1:UInt64).toBitVec=1#64:=rfl;rw[e1];constructor
 ·intro q;have:=congrArg (λz=>getLsbD z 0) q;simpa using this
 ·intro q;apply eq_of_getLsbD_eq;intro i hi2;by_cases h0:i=0
  ·subst h0;simp[q]
  ·simp[getLsbD_one,h0]
theorem sl1 (a:UInt64):(a<<<1).toBitVec=a.toBitVec<<<1:=by
 rw[UInt64.toBitVec_shiftLeft];rfl
theorem sr1 (a:UInt64):(a>>>1).toBitVec=a.toBitVec>>>1:=by
 rw[toBitVec_shiftRight];rfl
theorem sr63 (a:UInt64):(a>>>63).toBitVec=a.toBitVec>>>63:=by
 rw[toBitVec_shiftRight];rfl
noncomputable def G (m:B):Nat->B->B->B
 |0,_,_=>0#64
 |f+1,a,y=>(if y.getLsbD 0 then a else 0#64) ^^^ G m f (Xb m a) (y>>>1)
theorem phi_step (m xh xl:B)(h:xh.msb=false):phi m ((xh<<<1)|||(xl>>>63)) (xl<<<1)=Xb m (phi m xh xl):=by
 have e:(xh<<<1)|||(xl>>>63)=(xh<<<1) ^^^ (if xl.msb then 1#64 else 0#64):=by
  apply eq_of_getLsbD_eq;intro i hi;rw[BitVec.getLsbD_or,getLsbD_xor,getLsbD_shiftLeft,getLsbD_ushiftRight,msb_eq_getLsbD_last];by_cases h0:i=0
  ·subst h0;have a:63+0=64-1:=rfl;rw[a];generalize xl.getLsbD (64-1)=b;cases b<;>simp
  ·have a1:xl.getLsbD (63+i)=false:=by apply getLsbD_of_ge;lia
   have a2:(if xl.getLsbD (64-1) then 1#64 else 0#64).getLsbD i=false:=by
    split
    ·rw[getLsbD_one];simp;lia
    ·simp
   rw[a1,a2];simp
 unfold phi;rw[e,z9, <-Uz,Aa];have e2:Xb m xh=xh<<<1:=by unfold Xb;rw[h];simp
 rw[e2];have e3:Xb m xl=xl<<<1 ^^^ (if xl.msb then m else 0#64):=rfl;rw[e3];cases xl.msb
 ·simp[rB]
 ·simp[Xn_64];ac_rfl
theorem VL (m:B):∀(f:Nat) (xh xl y hi lo:UInt64),f<=64->(∀i,64-f<=i->xh.toBitVec.getLsbD i=false)->
  phi m (carryFrom f xh xl y hi lo).1.toBitVec (carryFrom f xh xl y hi lo).2.toBitVec=phi m hi.toBitVec lo.toBitVec ^^^ G m f (phi m xh.toBitVec xl.toBitVec) y.toBitVec
 |0,xh,xl,y,hi,lo,_,_=>by simp[carryFrom,G]
 |f+1,xh,xl,y,hi,lo,hf,hx=>by
  have hm:xh.toBitVec.msb=false:=by
   rw[msb_eq_getLsbD_last];exact hx _ (by lia)
  have ex:((xh<<<1)|||(xl>>>63)).toBitVec=(xh.toBitVec<<<1)|||(xl.toBitVec>>>63):=by
   rw[UInt64.toBitVec_or,sl1,sr63]
  have hx':∀i,64-f<=i->((xh<<<1)|||(xl>>>63)).toBitVec.getLsbD i=false:=by
   intro i hi;rw[ex,BitVec.getLsbD_or,getLsbD_shiftLeft,getLsbD_ushiftRight];have a1:xl.toBitVec.getLsbD (63+i)=false:=by apply getLsbD_of_ge;lia
   rw[a1];by_cases q:i<64
   ·have:=hx (i-1) (by lia);simp[this]
   ·simp[q]
  have ih:=VL m f ((xh<<<1)|||(xl>>>63)) (xl<<<1) (y>>>1)
  rw[carryFrom,G];have ph:phi m ((xh<<<1)|||(xl>>>63)).toBitVec (xl<<<1).toBitVec=Xb m (phi m xh.toBitVec xl.toBitVec):=by
   rw[ex,sl1,phi_step m _ _ hm]
  by_cases hb:y.toBitVec.getLsbD 0=true
  ·rw[if_pos ((bit0 y).mpr hb),if_pos hb,ih _ _ (by lia) hx',ph,sr1];have:phi m (hi ^^^ xh).toBitVec (lo ^^^ xl).toBitVec=phi m hi.toBitVec lo.toBitVec ^^^ phi m xh.toBitVec xl.toBitVec:=by
    unfold phi;rw[toBitVec_xor,toBitVec_xor,Aa];ac_rfl
   rw[this,BitVec.xor_assoc]
  ·rw[if_neg (λq=>hb ((bit0 y).mp q)),if_neg hb,ih _ _ (by lia) hx',ph,sr1];simp
theorem G_Xb (m:B):∀f a y,G m f (Xb m a) y=Xb m (G m f a y)
 |0,_,_=>by simp[G,Js]
 |f+1,a,y=>by
  rw[G,G,z9,G_Xb m f]
  congr 1
  split
  ·rfl
  ·rw[Js]
theorem G_top (m a y:B)(f:Nat):G m (f+1) a y=Xb m (G m f a (y>>>1)) ^^^ (if y.getLsbD 0 then a else 0#64):=by
 rw[G,G_Xb,xor_comm]
theorem fY (m x y:Nat):fieldTimes m x y=(G (BitVec.ofNat 64 m) 64 (BitVec.ofNat 64 x) (BitVec.ofNat 64 y)).toNat:=by
 unfold fieldTimes;show(reducedFrom (UInt64.ofNat m) 64 _ _).toNat=_;have h:=VJ (UInt64.ofNat m) 64 (carryFrom 64 0 (UInt64.ofNat x) (UInt64.ofNat y) 0 0).1 (carryFrom 64 0 (UInt64.ofNat x) (UInt64.ofNat y) 0 0).2 (Nat.le_refl _);have c:=VL (BitVec.ofNat 64 m) 64 0 (UInt64.ofNat x) (UInt64.ofNat y) 0 0 (Nat.le_refl _) (λi z=>by show(0#64).getLsbD i=false;simp);rw[low_64] at h;show(reducedFrom (UInt64.ofNat m) 64 _ _).toBitVec.toNat=_;rw[h];have e1:(UInt64.ofNat m).toBitVec=BitVec.ofNat 64 m:=rfl;rw[e1];unfold phi at c;rw[c];have e2:(0:UInt64).toBitVec=0#64:=rfl;have e3:(UInt64.ofNat x).toBitVec=BitVec.ofNat 64 x:=rfl;have e4:(UInt64.ofNat y).toBitVec=BitVec.ofNat 64 y:=rfl;rw[e2,e3,e4,rB];simp
noncomputable def Nr (m x:Nat)(b:Bool)(p:Nat):Nat:=
 let q:=if 18446744073709551616<=p*2 then p*2 ^^^ 18446744073709551616 ^^^ m else p*2
 if b then q ^^^ x else q
noncomputable def jC (m x y:Nat):Nat->Nat
 |0=>0
 |i+1=>Nr m x (y.testBit (63-i)) (jC m x y i)
theorem VN (m p:B):(Xb m p).toNat=if 18446744073709551616<=p.toNat*2 then p.toNat*2 ^^^ 18446744073709551616 ^^^ m.toNat else p.toNat*2:=by
 have hp:=p.isLt;unfold Xb;have hs:p<<<1=BitVec.ofNat 64 (p.toNat*2):=by
  apply eq_of_toNat_eq;rw[BitVec.toNat_shiftLeft,toNat_ofNat,Nat.shiftLeft_eq]
 have hm:p.msb=decide (18446744073709551616<=p.toNat*2):=by
  rw[BitVec.msb_eq_decide]
  congr 1
  apply propext;show 2^63<=p.toNat↔_;lia
 rw[hm,toNat_xor,hs,toNat_ofNat];by_cases h:18446744073709551616<=p.toNat*2
 ·have e:p.toNat*2%2^64=p.toNat*2 ^^^ 18446744073709551616:=by
   apply Nat.eq_of_testBit_eq;intro i;rw[Nat.testBit_mod_two_pow,testBit_xor];have w:(18446744073709551616:Nat).testBit i=decide (64=i):=Nat.testBit_two_pow (n:=64) (m:=i);rw[w];by_cases h1:i<64
   ·have:¬64=i:=by lia
    simp[h1,this]
   ·by_cases h2:i=64
    ·subst h2;have:(p.toNat*2).testBit 64=true:=by
      rw[Nat.testBit_eq_decide_div_mod_eq];have:p.toNat*2/2^64=1:=by lia
      rw[this];rfl
     rw[this];simp
    ·have:(p.toNat*2).testBit i=false:=by
      apply Nat.testBit_lt_two_pow;have:2^65<=2^i:=Nat.pow_le_pow_right (by lia) (by lia);lia
     rw[this];have:¬64=i:=by lia
     simp[h1,this]
  rw[if_pos (by simpa using h),if_pos h,e]
 ·rw[if_neg (by simpa using h),if_neg h];simp;lia
theorem K9 (m x y:Nat)(hm:m<18446744073709551616)(hx:x<18446744073709551616):∀i,i<=64->jC m x y i=(G (BitVec.ofNat 64 m) i (BitVec.ofNat 64 x) (BitVec.ofNat 64 y>>>(64-i))).toNat
 |0,_=>rfl
 |i+1,h=>by
  rw[jC,K9 m x y hm hx i (by lia),G_top,toNat_xor,VN];have e1:(BitVec.ofNat 64 y>>>(64-(i+1)))>>>1=BitVec.ofNat 64 y>>>(64-i):=by
   apply eq_of_getLsbD_eq;intro j hj;rw[getLsbD_ushiftRight,getLsbD_ushiftRight,getLsbD_ushiftRight]
   congr 1;lia
  have e2:(BitVec.ofNat 64 y>>>(64-(i+1))).getLsbD 0=y.testBit (63-i):=by
   rw[getLsbD_ushiftRight,getLsbD_ofNat];have a:64-(i+1)+0=63-i:=by lia
   have b:63-i<64:=by lia
   rw[a];simp[b]
  rw[e1,e2];have em:(BitVec.ofNat 64 m).toNat=m:=by rw[toNat_ofNat];lia
  have ex:(BitVec.ofNat 64 x).toNat=x:=by rw[toNat_ofNat];lia
  rw[em];unfold Nr;cases y.testBit (63-i)
  ·simp
  ·simp[ex]
theorem Nt (m x y:Nat)(hm:m<18446744073709551616)(hx:x<18446744073709551616):jC m x y 64=fieldTimes m x y:=by
 rw[K9 m x y hm hx 64 (Nat.le_refl _),fY];simp
theorem La (m x y:Nat)(hm:m<18446744073709551616)(hx:x<18446744073709551616)(i:Nat)(hi:i<=64):jC m x y i<18446744073709551616:=by
 rw[K9 m x y hm hx i hi];exact isLt _
theorem VP (m x y:Nat):fieldTimes m x y<18446744073709551616:=by
 rw[fY];exact isLt _
end Poly
namespace Ar
open GridTalk
def Dom (a:Nat)(z:Int):Prop:=if a<=2 then True else if a=3 then 0<=z else 0<=z/\z<18446744073709551616
theorem kY {a:Nat}{z:Int}(h:a<=2):Dom a z:=by unfold Dom;rw[if_pos h];trivial
theorem rC {z:Int}:Dom 3 z↔0<=z:=by unfold Dom;simp
theorem fO {a:Nat}{z:Int}(h:4<=a):Dom a z↔0<=z/\z<18446744073709551616:=by
 unfold Dom;rw[if_neg (by lia),if_neg (by lia)]
theorem eV {a m:Nat}{A:Arith}(h:arith a m=some A){C:Nat->Nat->Arith->Prop}
  (h0:C 0 0 (plain (λ(z:Int)=>some (z%(WORD:Int)).toNat) λw=>true))
  (h1:∀m,1<=m->m<HALF->C 1 m (plain (λ(z:Int)=>some (z%(m:Int)).toNat) λ(x:Nat)=>decide (x<m)))
  (h2:C 2 0 {plain (λ(z:Int)=>if-(HALF:Int)<=z/\z<(HALF:Int) then some (z%(WORD:Int)).toNat else none) (λw=>true) with mean:=signed})
  (h3:C 3 0 {lanes (λ(x y:Int)=>min x y) (λ(x y:Int)=>x+y) TOP 0 none with word:=λ(z:Int)=>some (min z TOP).toNat})
  (h4:C 4 0 (lanes (λ(x y:Int)=>max x y) (λ(x y:Int)=>min x y) 0 TOP none))
  (h5:C 5 0 (lanes (bits lor) (bits land) 0 TOP none))
  (h6:C 6 0 (lanes (bits xor) (bits land) 0 TOP (some (bits xor))))
  (h7:∀m,m<WORD->C 7 m (lanes (bits xor) (bits (fieldTimes m)) 0 1 (some (bits xor)))):C a m A:=by
 unfold arith at h;split at h
 ·split at h
  ·rename_i e;subst e;cases h;exact h0
  ·cases h
 ·split at h
  ·rename_i e;cases h;exact h1 m e.1 e.2
  ·cases h
 ·split at h
  ·rename_i e;subst e;cases h;exact h2
  ·cases h
 ·split at h
  ·rename_i e;subst e;cases h;exact h3
  ·cases h
 ·split at h
  ·rename_i e;subst e;cases h;exact h4
  ·cases h
 ·split at h
  ·rename_i e;subst e;cases h;exact h5
  ·cases h
 ·split at h
  ·rename_i e;subst e;cases h;exact h6
  ·cases h
 ·split at h
  ·rename_i e;cases h;exact h7 m e
  ·cases h
 ·cases h
theorem cV {a m:Nat}{A:Arith}(h:arith a m=some A):
  (a=0/\m=0/\A=plain (λ(z:Int)=>some (z%(WORD:Int)).toNat) λw=>true)
  \/(a=1/\1<=m/\m<9223372036854775808/\A=plain (λ(z:Int)=>some (z%(m:Int)).toNat) λ(x:Nat)=>decide (x<m))
  \/(a=2/\m=0/\A={plain (λ(z:Int)=>if-(HALF:Int)<=z/\z<(HALF:Int) then some (z%(WORD:Int)).toNat else none) (λw=>true) with mean:=signed})
  \/(a=3/\m=0/\A={lanes (λ(x y:Int)=>min x y) (λ(x y:Int)=>x+y) TOP 0 none with word:=λ(z:Int)=>some (min z TOP).toNat})
  \/(a=4/\m=0/\A=lanes (λ(x y:Int)=>max x y) (λ(x y:Int)=>min x y) 0 TOP none)
  \/(a=5/\m=0/\A=lanes (bits lor) (bits land) 0 TOP none)
  \/(a=6/\m=0/\A=lanes (bits xor) (bits land) 0 TOP (some (bits xor)))
  \/(a=7/\m<18446744073709551616/\A=lanes (bits xor) (bits (fieldTimes m)) 0 1 (some (bits xor))):=by
 refine eV h (C:=λa m A=>(a=0/\m=0/\A=plain (λ(z:Int)=>some (z%(WORD:Int)).toNat) λw=>true) \/(a=1/\1<=m/\m<9223372036854775808/\A=plain (λ(z:Int)=>some (z%(m:Int)).toNat) λ(x:Nat)=>decide (x<m)) \/(a=2/\m=0/\A={plain (λ(z:Int)=>if-(HALF:Int)<=z/\z<(HALF:Int) then some (z%(WORD:Int)).toNat else none) (λw=>true) with mean:=signed})
  \/(a=3/\m=0/\A={lanes (λ(x y:Int)=>min x y) (λ(x y:Int)=>x+y) TOP 0 none with word:=λ(z:Int)=>some (min z TOP).toNat})
  \/(a=4/\m=0/\A=lanes (λ(x y:Int)=>max x y) (λ(x y:Int)=>min x y) 0 TOP none)
  \/(a=5/\m=0/\A=lanes (bits lor) (bits land) 0 TOP none)
  \/(a=6/\m=0/\A=lanes (bits xor) (bits land) 0 TOP (some (bits xor)))
  \/(a=7/\m<18446744073709551616/\A=lanes (bits xor) (bits (fieldTimes m)) 0 1 (some (bits xor)))) ?_ (λm h1 h2=>?_) ?_ ?_ ?_ ?_ ?_ (λm h1=>?_)
 ·exact .inl ⟨rfl,rfl,rfl⟩
 ·exact .inr (.inl ⟨rfl,h1,h2,rfl⟩)
 ·exact .inr (.inr (.inl ⟨rfl,rfl,rfl⟩))
 ·exact .inr (.inr (.inr (.inl ⟨rfl,rfl,rfl⟩)))
 ·exact .inr (.inr (.inr (.inr (.inl ⟨rfl,rfl,rfl⟩))))
 ·exact .inr (.inr (.inr (.inr (.inr (.inl ⟨rfl,rfl,rfl⟩)))))
 ·exact .inr (.inr (.inr (.inr (.inr (.inr (.inl ⟨rfl,rfl,rfl⟩))))))
 ·exact .inr (.inr (.inr (.inr (.inr (.inr (.inr ⟨rfl,h1,rfl⟩))))))
theorem VR (f:Nat->Nat->Nat)(x y:Int):(bits f x y).toNat=f x.toNat y.toNat:=by
 unfold bits;exact toNat_natCast _
theorem Cp {f:Nat->Nat->Nat}(h:∀x y z,f (f x y) z=f x (f y z))(x y z:Int):bits f (bits f x y) z=bits f x (bits f y z):=by
 show((f (bits f x y).toNat z.toNat:Nat):Int)=((f x.toNat (bits f y z).toNat:Nat):Int);rw[VR,VR,h]
theorem Gn {f:Nat->Nat->Nat}(h:∀x y,f x y=f y x)(x y:Int):bits f x y=bits f y x:=by
 show((f x.toNat y.toNat:Nat):Int)=((f y.toNat x.toNat:Nat):Int);rw[h]
theorem Cq {a m:Nat}{A:Arith}(h:arith a m=some A):∀x y z,A.plus (A.plus x y) z=A.plus x (A.plus y z):=by
 refine eV h (C:=λw w A=>∀x y z,A.plus (A.plus x y) z=A.plus x (A.plus y z)) ?_ (λm w w=>?_) ?_ ?_ ?_ ?_ ?_ (λm w=>?_)<;>intro x y z
 ·exact add_assoc x y z
 ·exact add_assoc x y z
 ·exact add_assoc x y z
 ·exact min_assoc ..
 ·exact Int.max_assoc ..
 ·exact Cp Nat.or_assoc x y z
 ·exact Cp Nat.xor_assoc x y z
 ·exact Cp Nat.xor_assoc x y z
theorem Gp {a m:Nat}{A:Arith}(h:arith a m=some A):∀x y,A.plus x y=A.plus y x:=by
 refine eV h (C:=λz z A=>∀x y,A.plus x y=A.plus y x) ?_ (λm z z=>?_) ?_ ?_ ?_ ?_ ?_ (λm z=>?_)<;>intro x y
 ·exact Int.add_comm x y
 ·exact Int.add_comm x y
 ·exact Int.add_comm x y
 ·exact Int.min_comm ..
 ·exact Int.max_comm ..
 ·exact Gn Nat.or_comm x y
 ·exact Gn Nat.xor_comm x y
 ·exact Gn Nat.xor_comm x y
theorem Nu {f:Int->Int->Int}(as:∀x y z,f (f x y) z=f x (f y z))(co:∀x y,f x y=f y x):∀(l:List Int) (z w:Int),l.foldl f (f z w)=f z (l.foldl f w)
 |[],_,_=>rfl
 |x::l,z,w=>by
  rw[foldl_cons,foldl_cons,as,Nu as co l]
theorem Kl {f:Int->Int->Int}(as:∀x y z,f (f x y) z=f x (f y z))(co:∀x y,f x y=f y x)(e:Int):∀l:List Int,l.foldl f e=l.foldr f e
 |[]=>rfl
 |x::l=>by
  rw[foldl_cons,List.foldr_cons,co e x,Nu as co l,Kl as co e l]
theorem pR {a m:Nat}{A:Arith}(h:arith a m=some A)(l:List Int):A.total l=l.foldl A.plus A.none_:=
 (Kl (Cq h) (Gp h) A.none_ l).symm
theorem lH {a:Nat}(ha:4<=a){f:Nat->Nat->Nat}(hf:∀x y,x<2^64->y<2^64->f x y<2^64){x y:Int}(hx:Dom a x)(hy:Dom a y):Dom a (bits f x y):=by
 rw[fO ha] at hx hy⊢;unfold bits;have:=hf x.toNat y.toNat (by lia) (by lia);lia
theorem eN {a m:Nat}{A:Arith}(h:arith a m=some A):∀w,w<18446744073709551616->Dom a (A.mean w):=by
 refine eV h (C:=λa z A=>∀w,w<18446744073709551616->Dom a (A.mean w)) ?_ (λm z z=>?_) ?_ ?_ ?_ ?_ ?_ (λm z=>?_)<;>intro w hw
 ·exact kY (by lia)
 ·exact kY (by lia)
 ·exact kY (by lia)
 ·exact rC.mpr (natCast_nonneg _)
 ·exact(fO (by lia)).mpr ⟨natCast_nonneg _,by show(w:Int)<_;lia⟩
 ·exact(fO (by lia)).mpr ⟨natCast_nonneg _,by show(w:Int)<_;lia⟩
 ·exact(fO (by lia)).mpr ⟨natCast_nonneg _,by show(w:Int)<_;lia⟩
 ·exact(fO (by lia)).mpr ⟨natCast_nonneg _,by show(w:Int)<_;lia⟩
theorem oF {a m:Nat}{A:Arith}(h:arith a m=some A):Dom a A.none_:=by
 refine eV h (C:=λa z A=>Dom a A.none_) ?_ (λm z z=>?_) ?_ ?_ ?_ ?_ ?_ (λm z=>?_)
 ·exact kY (by lia)
 ·exact kY (by lia)
 ·exact kY (by lia)
 ·exact rC.mpr (by decide)
 ·exact(fO (by lia)).mpr (by decide)
 ·exact(fO (by lia)).mpr (by decide)
 ·exact(fO (by lia)).mpr (by decide)
 ·exact(fO (by lia)).mpr (show(0:Int)<=0/\(0:Int)<18446744073709551616 by decide)
theorem vO {a m:Nat}{A:Arith}(h:arith a m=some A):Dom a A.one:=by
 refine eV h (C:=λa z A=>Dom a A.one) ?_ (λm z z=>?_) ?_ ?_ ?_ ?_ ?_ (λm z=>?_)
 ·exact kY (by lia)
 ·exact kY (by lia)
 ·exact kY (by lia)
 ·exact rC.mpr (by decide)
 ·exact(fO (by lia)).mpr (by decide)
 ·exact(fO (by lia)).mpr (by decide)
 ·exact(fO (by lia)).mpr (by decide)
 ·exact(fO (by lia)).mpr (show(0:Int)<=1/\(1:Int)<18446744073709551616 by decide)
theorem jU {a m:Nat}{A:Arith}(h:arith a m=some A):∀x y,Dom a x->Dom a y->Dom a (A.plus x y):=by
 refine eV h (C:=λa z A=>∀x y,Dom a x->Dom a y->Dom a (A.plus x y)) ?_ (λm z z=>?_) ?_ ?_ ?_ ?_ ?_ (λm z=>?_)<;>intro x y hx hy
 ·exact kY (by lia)
 ·exact kY (by lia)
 ·exact kY (by lia)
 ·rw[rC] at hx hy⊢;show 0<=min x y;lia
 ·rw[fO (by lia)] at hx hy⊢;show 0<=max x y/\max x y<_;lia
 ·exact lH (by lia) (λx y hx hy=>Nat.or_lt_two_pow hx hy) hx hy
 ·exact lH (by lia) (λx y hx hy=>xor_lt_two_pow hx hy) hx hy
 ·exact lH (by lia) (λx y hx hy=>xor_lt_two_pow hx hy) hx hy
theorem dX {a m:Nat}{A:Arith}(h:arith a m=some A):∀x y,Dom a x->Dom a y->Dom a (A.times x y):=by
 refine eV h (C:=λa z A=>∀x y,Dom a x->Dom a y->Dom a (A.times x y)) ?_ (λm z z=>?_) ?_ ?_ ?_ ?_ ?_ (λm z=>?_)<;>intro x y hx hy
 ·exact kY (by lia)
 ·exact kY (by lia)
 ·exact kY (by lia)
 ·rw[rC] at hx hy⊢;show 0<=x+y;lia
 ·rw[fO (by lia)] at hx hy⊢;show 0<=min x y/\min x y<_;lia
 ·exact lH (by lia) (λx y hx hy=>lt_of_le_of_lt Nat.and_le_left hx) hx hy
 ·exact lH (by lia) (λx y hx hy=>lt_of_le_of_lt Nat.and_le_left hx) hx hy
 ·exact lH (by lia) (λx y z z=>Poly.VP m x y) hx hy
theorem wu {a m:Nat}{A:Arith}(h:arith a m=some A):∀x y,Dom a x->Dom a y->Dom a (A.less x y):=by
 refine eV h (C:=λa z A=>∀x y,Dom a x->Dom a y->Dom a (A.less x y)) ?_ (λm z z=>?_) ?_ ?_ ?_ ?_ ?_ (λm z=>?_)<;>intro x y hx hy
 ·exact kY (by lia)
 ·exact kY (by lia)
 ·exact kY (by lia)
 ·exact hx
 ·exact hx
 ·exact hx
 ·exact lH (by lia) (λx y hx hy=>xor_lt_two_pow hx hy) hx hy
 ·exact lH (by lia) (λx y hx hy=>xor_lt_two_pow hx hy) hx hy
theorem Zm {a m:Nat}{A:Arith}(h:arith a m=some A):∀z w,Dom a z->A.word z=some w->w<18446744073709551616/\A.number w=true:=by
 refine eV h (C:=λa y A=>∀z w,Dom a z->A.word z=some w->w<18446744073709551616/\A.number w=true) ?_ (λm m1 m2=>?_) ?_ ?_ ?_ ?_ ?_ (λm y=>?_)<;>intro z w hz e
 ·have e:some (z%(WORD:Int)).toNat=some w:=e;injection e with e
  refine⟨?_,rfl⟩;have q:(WORD:Int)=18446744073709551616:=rfl;rw[q] at e;lia
 ·have e:some (z%(m:Int)).toNat=some w:=e;injection e with e
  have h1:z%(m:Int)<m:=Int.emod_lt_of_pos _ (by lia);have h2:0<=z%(m:Int):=Int.emod_nonneg _ (by lia);have h3:HALF=9223372036854775808:=rfl;have hw:w<m:=by lia
  exact⟨by lia,by show decide (w<m)=true;exact decide_eq_true hw⟩
 ·have e:(if-(HALF:Int)<=z/\z<(HALF:Int) then some (z%(WORD:Int)).toNat else none)=some w:=e;split at e
  ·injection e with e;refine⟨?_,rfl⟩;have q:(WORD:Int)=18446744073709551616:=rfl;rw[q] at e;lia
  ·cases e
 ·have e:some (min z TOP).toNat=some w:=e;injection e with e
  have:TOP=18446744073709551615:=by decide
  exact⟨by lia,rfl⟩
 all_goals
  have e:some z.toNat=some w:=e;injection e with e
  rw[fO (by lia)] at hz;exact⟨by lia,rfl⟩
end Ar
namespace Poly
open GridTalk
theorem Qg (m:B):∀f a b y,G m f (a ^^^ b) y=G m f a y ^^^ G m f b y
 |0,_,_,_=>by simp[G]
 |f+1,a,b,y=>by
  rw[G,G,G,z9,Qg m f];cases y.getLsbD 0<;>simp;ac_rfl
theorem Zn (m:B):∀f a y z,G m f a (y ^^^ z)=G m f a y ^^^ G m f a z
 |0,_,_,_=>by simp[G]
 |f+1,a,y,z=>by
  rw[G,G,G,BitVec.ushiftRight_xor_distrib,Zn m f,getLsbD_xor];cases y.getLsbD 0<;>cases z.getLsbD 0<;>simp
  ·ac_rfl
  ·ac_rfl
  ·generalize G m f (Xb m a) (y>>>1)=u;generalize G m f (Xb m a) (z>>>1)=v;have h:a ^^^ (u ^^^ (a ^^^ v))=(a ^^^ a) ^^^ (u ^^^ v):=by ac_rfl
   rw[BitVec.xor_assoc,h,BitVec.xor_self,zero_xor]
theorem wz (m:B):∀f y,G m f 0#64 y=0#64
 |0,_=>rfl
 |f+1,y=>by rw[G,Js,wz m f];simp
theorem G_succ (m:B)(f:Nat)(a y:B):G m (f+1) a y=(if y.getLsbD 0 then a else 0#64) ^^^ G m f (Xb m a) (y>>>1):=rfl
theorem G_of (m y:B):∀(f:Nat) (b a:B),G m 64 (G m f b a) y=G m f (G m 64 b y) a
 |0,_,_=>by show G m 64 0#64 y=0#64;rw[wz]
 |f+1,b,a=>by
  rw[G_succ m f b a,G_succ m f _ a,Qg,G_of m y f,G_Xb];cases a.getLsbD 0<;>simp[wz]
theorem RD (m y:B):∀(f k:Nat),k+f=64->G m f (Xn m k 1#64) (y>>>k) ^^^ low k y=y
 |0,k,h=>by
  obtain rfl:k=64:=by lia
  rw[G,low_64];simp
 |f+1,k,h=>by
  have O:k<64:=by lia
  have ih:=RD m y f (k+1) (by lia);rw[G];have e1:Xb m (Xn m k 1#64)=Xn m (k+1) 1#64:=rfl;have e2:y>>>k>>>1=y>>>(k+1):=by rw[BitVec.shiftRight_add]
  rw[e1,e2];rw[VH k y O] at ih;rw[Nq m k O];have e3:(y>>>k).getLsbD 0=y.getLsbD k:=by rw[getLsbD_ushiftRight];rfl
  rw[e3];refine Eq.trans ?_ ih;ac_rfl
theorem UG (m y:B):G m 64 1#64 y=y:=by
 have h:=RD m y 64 0 (by lia);rw[VG] at h;simpa[Xn] using h
theorem Nv (m a y:B):G m 64 a y=G m 64 y a:=by
 have h:=G_of m y 64 1#64 a;rw[UG,UG] at h;exact h
theorem Zo (m a b y:B):G m 64 (G m 64 a b) y=G m 64 a (G m 64 b y):=by
 rw[Nv m a b,G_of m y 64 b a,Nv m (G m 64 b y) a]
theorem lX (m x y:Nat):fieldTimes m x y=fieldTimes m y x:=by
 rw[fY,fY,Nv]
end Poly
namespace Poly
open GridTalk
theorem ofN (b:B):BitVec.ofNat 64 b.toNat=b:=by simp
theorem Ys (m x y z:Nat):fieldTimes m (fieldTimes m x y) z=fieldTimes m x (fieldTimes m y z):=by
 rw[fY,fY,fY,fY,ofN,ofN,Zo]
theorem Zq (x y:Nat):BitVec.ofNat 64 (x ^^^ y)=BitVec.ofNat 64 x ^^^ BitVec.ofNat 64 y:=by
 apply eq_of_getLsbD_eq;intro i hi;rw[getLsbD_xor,getLsbD_ofNat,getLsbD_ofNat,getLsbD_ofNat,testBit_xor];simp[hi]
theorem Km (m x y z:Nat):fieldTimes m (x ^^^ y) z=fieldTimes m x z ^^^ fieldTimes m y z:=by
 rw[fY,fY,fY,Zq,Qg,toNat_xor]
theorem Yt (m x y z:Nat):fieldTimes m x (y ^^^ z)=fieldTimes m x y ^^^ fieldTimes m x z:=by
 rw[lX,Km,lX m y,lX m z]
theorem Gq (m x:Nat):fieldTimes m 0 x=0:=by
 rw[fY];have:BitVec.ofNat 64 0=0#64:=rfl;rw[this,wz];rfl
theorem V0 (m x:Nat):fieldTimes m x 0=0:=by rw[lX,Gq]
theorem Ko (m x:Nat)(h:x<18446744073709551616):fieldTimes m 1 x=x:=by
 rw[fY];have:BitVec.ofNat 64 1=1#64:=rfl;rw[this,UG,toNat_ofNat];lia
theorem Yu (m x:Nat)(h:x<18446744073709551616):fieldTimes m x 1=x:=by rw[lX,Ko m x h]
theorem Cr (x:Nat)(h:x<18446744073709551616):18446744073709551615&&& x=x:=by
 rw[Nat.and_comm];have:(18446744073709551615:Nat)=2^64-1:=rfl;rw[this,Nat.and_two_pow_sub_one_eq_mod];lia
end Poly
namespace cZ
open GridTalk
theorem RG {α β:Type}(f:α->Option β):allOf f []=some []:=rfl
theorem d7 {α β:Type}(f:α->Option β)(a:α)(l:List α):allOf f (a::l)=(f a).bind λb=>(allOf f l).map λr=>b::r:=by
 show(match f a,allOf f l with|some b,some l=>some (b::l)|_,_=>none)=_
 cases f a<;>cases allOf f l<;>rfl
theorem Gs {α β:Type}(f:α->Option β):∀(l m:List α),allOf f (l++m)=(allOf f l).bind λx=>(allOf f m).map λy=>x++y
 |[],m=>by
  rw[nil_append,RG];cases allOf f m<;>rfl
 |a::l,m=>by
  rw[List.cons_append,d7,d7,Gs f l m];cases f a<;>cases allOf f l<;>cases allOf f m<;>rfl
theorem sY {α β γ:Type}(f:β->Option γ)(g:α->β):∀l:List α,allOf f (l.map g)=allOf (λa=>f (g a)) l
 |[]=>rfl
 |a::l=>by rw[map_cons,d7,d7,sY f g l]
theorem fZ {α β:Type}{f:α->Option β}:∀{l:List α}{r:List β},allOf f l=some r->r.length=l.length
 |[],r,h=>by rw[RG] at h;injection h with h;subst h;rfl
 |a::l,r,h=>by
  rw[d7] at h;cases e:f a with
  |none=>rw[e] at h;cases h
  |some b=>
   cases e2:allOf f l with
   |none=>rw[e,e2] at h;cases h
   |some r'=>
    rw[e,e2] at h;injection h with h;subst h
    show r'.length+1=l.length+1;rw[fZ e2]
theorem sZ {α β:Type}{f:α->Option β}:∀{l:List α}{r:List β}{i:Nat}{a:α},allOf f l=some r->l[i]? =some a->f a=r[i]?
 |[],r,i,a,_,ha=>by simp at ha
 |b::l,r,i,a,h,ha=>by
  rw[d7] at h;cases e:f b with
  |none=>rw[e] at h;cases h
  |some c=>
   cases e2:allOf f l with
   |none=>rw[e,e2] at h;cases h
   |some r'=>
    rw[e,e2] at h;injection h with h;subst h
    cases i with
    |zero=>simp at ha;subst ha;simpa using e
    |succ i=>exact sZ (l:=l) (i:=i) e2 (by simpa using ha)
theorem Ny {α β γ:Type}(g:α->β->Option γ)(L:α->List β):∀l:List α,(allOf (λa=>allOf (g a) (L a)) l).map List.flatten=allOf (λp:α×β=>g p.1 p.2) (l.flatMap λa=>(L a).map λb=>(a,b))
 |[]=>rfl
 |a::l=>by
  rw[flatMap_cons,Gs,sY, <-Ny g L l,d7];cases allOf (g a) (L a)<;>cases allOf (λa=>allOf (g a) (L a)) l<;>rfl
theorem m7 (r c:Nat):((range r).flatMap λi=>(range c).map λj=>(i,j))=(range (r*c)).map λk=>(k/c,k%c):=by
 induction r with
 |zero=>simp
 |succ r ih=>
  rw[range_succ,flatMap_append,ih,succ_mul,List.range_add,map_append,flatMap_cons,flatMap_nil,append_nil,map_map]
  congr 1
  apply map_congr_left;intro j hj;have hj:j<c:=List.mem_range.mp hj;show(r,j)=((r*c+j)/c,(r*c+j)%c);rw[mul_comm r c,Nat.mul_add_div (by lia),Nat.div_eq_of_lt hj,Nat.mul_add_mod,mod_eq_of_lt hj];rfl
theorem fu (c:Nat):∀(r:Nat) (l:List Nat),l.length=r*c->(rowsOf c r l).flatten=l
 |0,l,h=>by
  have:l=[]:=length_eq_zero_iff.mp (by rw[h];simp);subst this;rfl
 |r+1,l,h=>by
  rw[rowsOf,flatten_cons,fu c r (l.drop c) (by rw[length_drop,h,succ_mul];lia),List.take_append_drop]
theorem rD (c:Nat):∀(ll:List (List Nat)),(∀x∈ll,x.length=c)->rowsOf c ll.length ll.flatten=ll
 |[],_=>rfl
 |x::ll,h=>by
  have hx:x.length=c:=h x mem_cons_self;rw[length_cons,rowsOf,flatten_cons];have e1:(x++ll.flatten).take c=x:=by rw[<-hx,List.take_left'];rfl
  have e2:(x++ll.flatten).drop c=ll.flatten:=by rw[<-hx,List.drop_left'];rfl
  rw[e1,e2,rD c ll λy hy=>h y (mem_cons_of_mem _ hy)]
theorem Nz (c:Nat):∀(r:Nat) (l:List Nat) (i:Nat),i<r->(rowsOf c r l).getD i []=(l.drop (i*c)).take c
 |0,_,i,h=>by lia
 |r+1,l,0,_=>by rw[rowsOf];simp
 |r+1,l,i+1,h=>by
  rw[rowsOf];show(rowsOf c r (l.drop c)).getD i []=_;rw[Nz c r _ i (by lia),drop_drop]
  congr 2
  rw[succ_mul];lia
theorem vP (r c:Nat)(l:List Nat){i j:Nat}(hi:i<r)(hj:j<c):(Mat.mk r c (rowsOf c r l)).at_ i j=l.getD (i*c+j) 0:=by
 unfold Mat.at_;show((rowsOf c r l).getD i []).getD j 0=_;rw[Nz c r l i hi,getD_eq_getElem?_getD,getD_eq_getElem?_getD,getElem?_take_of_lt hj,getElem?_drop]
theorem tu (A:Arith)(p r c:Nat)(f:Nat->Nat->Int):made A p r c f=match allOf (λk=>A.word (f (k/c) (k%c))) (range (r*c)) with
  |some l=>.ok ⟨r,c,rowsOf c r l⟩
  |none=>.error p:=by
 have h:=Ny (λi j=>A.word (f i j)) (λ_:Nat=>range c) (range r);rw[m7,sY] at h;unfold made;cases e:allOf (λ(i:Nat)=>allOf (λ(j:Nat)=>A.word (f i j)) (range c)) (range r) with
 |none=>
  rw[e] at h;have h:none=allOf (λk=>A.word (f (k/c) (k%c))) (range (r*c)):=h;rw[<-h]
 |some ll=>
  rw[e] at h;have h:some ll.flatten=allOf (λk=>A.word (f (k/c) (k%c))) (range (r*c)):=h;rw[<-h];have hl:=fZ e;rw[length_range] at hl;have hc:∀x∈ll,x.length=c:=by
   intro x hx;obtain⟨i,hi⟩:=List.getElem?_of_mem hx;have hil:i<ll.length:=(List.getElem?_eq_some_iff.mp hi).1;have q:=sZ e (i:=i) (a:=i) (by rw[getElem?_range (by lia)]);rw[hi] at q;have:=fZ q;rw[length_range] at this;exact this
  show Except.ok _=Except.ok _;have:=rD c ll hc;rw[hl] at this;rw[this]
theorem Zr (r c:Nat)(f:Nat->Nat->Nat):Mat.by_ r c f=⟨r,c,rowsOf c r ((range (r*c)).map λk=>f (k/c) (k%c))⟩:=by
 unfold Mat.by_
 congr 1
 have e:((range r).map λ(i:Nat)=>(range c).map λ(j:Nat)=>f i j).flatten=(range (r*c)).map λk=>f (k/c) (k%c):=by
  have:=congrArg (map λp:Nat×Nat=>f p.1 p.2) (m7 r c);rw[map_map,List.map_flatMap] at this;rw[<-List.flatMap_def];rw[show(λi=>(range c).map λj=>f i j)=λi=>((range c).map λj=>(i,j)).map λp:Nat×Nat=>f p.1 p.2 from by funext i;rw[map_map];rfl];exact this
 rw[<-e];have h:=rD c ((range r).map λ(i:Nat)=>(range c).map λ(j:Nat)=>f i j) (by
  intro x hx;obtain⟨i,_,rfl⟩:=mem_map.mp hx;simp)
 rw[length_map,length_range] at h;exact h.symm
end cZ
namespace Vl
open GridTalk
structure WF (A:Arith)(M:Mat):Prop where
 r1:1<=M.rows
 r2:M.rows<=16
 c1:1<=M.cols
 c2:M.cols<=16
 ex:∃l:List Nat,l.length=M.rows*M.cols/\M.words=rowsOf M.cols M.rows l/\∀x∈l,x<18446744073709551616/\A.number x=true
structure TF (M:Mat):Prop where
 r1:1<=M.rows
 r2:M.rows<=16
 c1:1<=M.cols
 c2:M.cols<=16
 ex:∃l:List Nat,l.length=M.rows*M.cols/\M.words=rowsOf M.cols M.rows l/\∀x∈l,x<18446744073709551616
theorem WF.at_ {A:Arith}{M:Mat}(h:WF A M){i j:Nat}(hi:i<M.rows)(hj:j<M.cols):M.at_ i j<18446744073709551616/\A.number (M.at_ i j)=true:=by
 obtain⟨l,hl,hw,hx⟩:=h.ex;have e:M=⟨M.rows,M.cols,rowsOf M.cols M.rows l⟩:=by cases M;simp at hw;subst hw;rfl
 rw[e,cZ.vP _ _ _ hi hj,getD_eq_getElem?_getD];have hlt:i*M.cols+j<l.length:=by
  rw[hl];have:(i+1)*M.cols<=M.rows*M.cols:=mul_le_mul_right _ hi;rw[succ_mul] at this;lia
 rw[getElem?_eq_getElem hlt];exact hx _ (List.getElem_mem hlt)
def Tree.su (n:Nat):Tree->Prop
 | .leaf _ (.table k)=>k<n
 | .leaf _ _=>True
 | .one _ _ x=>Tree.su n x
 | .two _ _ x y=>Tree.su n x/\Tree.su n y
theorem RJ {k c:Nat}{b:List Nat}{l:Leaf}(h:leafOf k c b=some l)(p:Nat):Tree.su k (.leaf p l):=by
 unfold leafOf at h;split at h
 ·split at h
  ·injection h with h;subst h;assumption
  ·cases h
 ·split at h
  ·injection h with h;subst h;trivial
  ·split at h
   ·injection h with h;subst h;trivial
   ·split at h
    ·injection h with h;subst h;trivial
    ·cases h
theorem oY {p c:Nat}{r:List Nat}{f:Nat->List Nat->Found}{z:Tree×Nat×List Nat}(h:behind p c r f=.ok z):numbers c<=r.length/\f (p+1+numbers c) (r.drop (numbers c))=.ok z:=by
 unfold behind at h;split at h
 ·cases h
 ·exact⟨by lia,h⟩
theorem Jt (k:Nat):∀(d p:Nat) (b:List Nat) (t:Tree) (q:Nat) (s:List Nat),read k d p b=.ok (t,q,s)->Tree.su k t
 |0,p,b,t,q,s,h=>by
  cases b with
  |nil=>simp[GridTalk.read] at h
  |cons c r=>
   rw[GridTalk.read] at h;cases e:leafOf k c r with
   |none=>simp[e] at h
   |some l=>
    simp only[e] at h;obtain⟨_,h⟩:=oY h;injection h with h;injection h with h1 h2;subst h1
    exact RJ e p
 |d+1,p,b,t,q,s,h=>by
  cases b with
  |nil=>simp[GridTalk.read] at h
  |cons c r=>
   rw[GridTalk.read] at h;cases e:leafOf k c r with
   |some l=>
    simp only[e] at h;obtain⟨_,h⟩:=oY h;injection h with h;injection h with h1 h2;subst h1
    exact RJ e p
   |none=>
    simp only[e] at h;cases e1:oneOf c r with
    |some o=>
     simp only[e1] at h;obtain⟨_,h⟩:=oY h;cases e2:read k d (p+1+numbers c) (r.drop (numbers c)) with
     |error f=>simp[e2] at h
     |ok z=>
      obtain⟨x,u,v⟩:=z;simp only[e2] at h;injection h with h;injection h with h1 h2;subst h1;show Tree.su k x;exact Jt k d _ _ _ _ _ e2
    |none=>
     simp only[e1] at h;cases e2:twoOf c with
     |none=>simp[e2] at h
     |some o=>
      simp only[e2] at h;cases e3:read k d (p+1) r with
      |error f=>simp[e3] at h
      |ok z=>
       obtain⟨x,u,v⟩:=z;simp only[e3] at h;cases e4:read k d u v with
       |error f=>simp[e4] at h
       |ok z'=>
        obtain⟨y,u',v'⟩:=z';simp only[e4] at h;injection h with h;injection h with h1 h2;subst h1;exact⟨Jt k d _ _ _ _ _ e3,Jt k d _ _ _ _ _ e4⟩
theorem Cu {k:Nat}{b:List Nat}{t:Tree}(h:parse k b=.ok t):Tree.su k t:=by
 unfold parse at h;split at h
 ·cases h
 ·split at h
  ·rename_i e;injection h with h;subst h;exact Jt k _ _ _ _ _ _ e
  ·cases h
  ·cases h
theorem jG {a m:Nat}{A:Arith}(hA:arith a m=some A){p r c:Nat}{f:Nat->Nat->Int}{M:Mat}(hr1:1<=r)(hr2:r<=16)(hc1:1<=c)(hc2:c<=16)(hd:∀i j,i<r->j<c->Ar.Dom a (f i j))(h:made A p r c f=.ok M):
  M.rows=r/\M.cols=c/\WF A M:=by
 rw[cZ.tu] at h;cases e:allOf (λk=>A.word (f (k/c) (k%c))) (range (r*c)) with
 |none=>rw[e] at h;cases h
 |some l=>
  rw[e] at h;injection h with h;subst h
  refine⟨rfl,rfl,hr1,hr2,hc1,hc2,l,?_,rfl,λx hx=>?_⟩
  ·have:=cZ.fZ e;rw[length_range] at this;exact this
  ·obtain⟨i,hi⟩:=List.getElem?_of_mem hx;have hl:=cZ.fZ e;rw[length_range] at hl;have hil:i<r*c:=by have:=(List.getElem?_eq_some_iff.mp hi).1;lia
   have q:=cZ.sZ e (i:=i) (a:=i) (getElem?_range hil);rw[hi] at q;have hcp:0<c:=by lia
   exact Ar.Zm hA _ _ (hd _ _ (div_lt_of_lt_mul (by rw[mul_comm];exact hil)) (mod_lt _ hcp)) q
theorem UJ {A:Arith}{r c:Nat}{f:Nat->Nat->Nat}(hr1:1<=r)(hr2:r<=16)(hc1:1<=c)(hc2:c<=16)(hd:∀i j,i<r->j<c->f i j<18446744073709551616/\A.number (f i j)=true):WF A (Mat.by_ r c f):=by
 rw[cZ.Zr];refine⟨hr1,hr2,hc1,hc2,_,?_,rfl,λx hx=>?_⟩
 ·rw[length_map,length_range]
 ·obtain⟨k,O,rfl⟩:=mem_map.mp hx;have O:=List.mem_range.mp O;exact hd _ _ (div_lt_of_lt_mul (by rw[mul_comm];exact O)) (mod_lt _ (by lia))
theorem WF.dom {a m:Nat}{A:Arith}(hA:arith a m=some A){M:Mat}(h:WF A M){i j:Nat}(hi:i<M.rows)(hj:j<M.cols):Ar.Dom a (M.mean A i j):=
 Ar.eN hA _ (h.at_ hi hj).1
theorem oZ {a m:Nat}{A:Arith}(hA:arith a m=some A):∀(l:List Int),(∀x∈l,Ar.Dom a x)->Ar.Dom a (A.total l)
 |[],_=>Ar.oF hA
 |x::l,h=>Ar.jU hA _ _ (h x mem_cons_self) (oZ hA l λy hy=>h y (mem_cons_of_mem _ hy))
theorem oG {a m:Nat}{A:Arith}(hA:arith a m=some A)(i j:Nat):Ar.Dom a (unitAt A i j):=by
 unfold unitAt;split
 ·exact Ar.vO hA
 ·exact Ar.oF hA
theorem Gu {a m:Nat}{A:Arith}(hA:arith a m=some A){x y:Mat}(hx:WF A x)(hy:WF A y)(e:x.cols=y.rows){i j:Nat}(hi:i<x.rows)(hj:j<y.cols):Ar.Dom a (cross A x y i j):=by
 unfold cross;refine oZ hA _ λz hz=>?_;obtain⟨l,hl,rfl⟩:=mem_map.mp hz;have hl:=List.mem_range.mp hl;exact Ar.dX hA _ _ (hx.dom hA hi hl) (hy.dom hA (by lia) hj)
theorem Qh {a m:Nat}{A:Arith}(hA:arith a m=some A):∀(n:Nat) (f:Nat->Nat->Int),(∀i j,i<n->j<n->Ar.Dom a (f i j))->Ar.Dom a (det A n f)
 |0,_,_=>Ar.vO hA
 |n+1,f,h=>by
  rw[det];have key:∀(l:List Nat) (z:Int),(∀j∈l,j<n+1)->Ar.Dom a z->Ar.Dom a (l.foldl (λ(z:Int) (j:Nat)=>
    let t:Int:=A.times (f 0 j) (det A n λ(i k:Nat)=>f (i+1) (if k<j then k else k+1))
    if j%2=0 then A.plus z t else A.less z t) z):=by
   intro l
   induction l with
   |nil=>intro z _ hz;exact hz
   |cons j l ih=>
    intro z hl hz;rw[foldl_cons];refine ih _ (λk O=>hl k (mem_cons_of_mem _ O)) ?_;have hj:=hl j mem_cons_self;have ht:Ar.Dom a (A.times (f 0 j) (det A n λ(i k:Nat)=>f (i+1) (if k<j then k else k+1))):=by
     refine Ar.dX hA _ _ (h 0 j (by lia) hj) (Qh hA n _ λi k hi O=>?_);exact h _ _ (by lia) (by split<;>lia)
    show Ar.Dom a (if j%2=0 then A.plus z _ else A.less z _);split
    ·exact Ar.jU hA _ _ hz ht
    ·exact Ar.wu hA _ _ hz ht
  exact key _ _ (λj hj=>List.mem_range.mp hj) (Ar.oF hA)
theorem vm {a m:Nat}{A:Arith}(hA:arith a m=some A){p:Nat}{x y M:Mat}(hx:WF A x)(hy:WF A y)(e:x.cols=y.rows)(h:product A p x y=.ok M):M.rows=x.rows/\M.cols=y.cols/\WF A M:=
 jG hA hx.r1 hx.r2 hy.c1 hy.c2 (λi j hi hj=>Gu hA hx hy e hi hj) h
theorem Ab {a m:Nat}{A:Arith}(hA:arith a m=some A){p n:Nat}{M:Mat}(h1:1<=n)(h2:n<=16)(h:made A p n n (unitAt A)=.ok M):M.rows=n/\M.cols=n/\WF A M:=
 jG hA h1 h2 h1 h2 (λi j z z=>oG hA i j) h
theorem Gv {a m:Nat}{A:Arith}(hA:arith a m=some A){p:Nat}{x:Mat}(hx:WF A x)(sq:x.rows=x.cols):∀(e:Nat) (M:Mat),raised A p x e=.ok M->M.rows=x.rows/\M.cols=x.rows/\WF A M
 |0,M,h=>Ab hA hx.r1 hx.r2 h
 |e+1,M,h=>by
  rw[raised] at h;cases q:raised A p x e with
  |error f=>rw[q] at h;cases h
  |ok z=>
   rw[q] at h;obtain⟨z1,z2,hz⟩:=Gv hA hx sq e z q;obtain⟨m1,m2,hM⟩:=vm hA hz hx z2 h;exact⟨by lia,by lia,hM⟩
theorem V1 {a m:Nat}{A:Arith}(hA:arith a m=some A){p:Nat}{x:Mat}(hx:WF A x)(sq:x.rows=x.cols):∀(e:Nat) (M:Mat),stage A p x e=.ok M->M.rows=x.rows/\M.cols=x.rows/\WF A M
 |0,M,h=>Ab hA hx.r1 hx.r2 h
 |e+1,M,h=>by
  rw[stage] at h;cases q:stage A p x e with
  |error f=>rw[q] at h;cases h
  |ok z=>
   rw[q] at h;obtain⟨z1,z2,hz⟩:=V1 hA hx sq e z q;exact jG hA hx.r1 hx.r2 hx.r1 hx.r2 (λi j hi hj=>Ar.jU hA _ _ (oG hA i j) (Gu hA hx hz (by lia) hi (by lia))) h
theorem bO {b:Bool}{s z:Size}{p:Nat}(h:whether b s p=.ok z):b=true/\z=s:=by
 unfold whether at h;split at h
 ·injection h with h;exact⟨by assumption,h.symm⟩
 ·cases h
def kZ (s:Size):Prop:=1<=s.1/\s.1<=16/\1<=s.2/\s.2<=16
theorem NK {minus:Bool}{p:Nat}{o:One}{s z:Size}(hs:kZ s)(h:oneSize minus p o s=.ok z):kZ z:=by
 obtain⟨h1,h2,h3,h4⟩:=hs;cases o with
 |turn=>injection h with h;subst h;exact⟨h3,h4,h1,h2⟩
 |trace=>obtain⟨_,rfl⟩:=bO h;exact⟨by decide,by decide,by decide,by decide⟩
 |power e=>obtain⟨_,rfl⟩:=bO h;exact⟨h1,h2,h3,h4⟩
 |closure=>obtain⟨_,rfl⟩:=bO h;exact⟨h1,h2,h3,h4⟩
 |det=>obtain⟨_,rfl⟩:=bO h;exact⟨by decide,by decide,by decide,by decide⟩
 |cut i r j c=>
  obtain⟨q,rfl⟩:=bO h;simp only[and_eq_true,decide_eq_true_eq] at q;exact⟨q.1,by lia,q.2.1,by lia⟩
theorem NP {minus:Bool}{p:Nat}{o:Two}{s t z:Size}(hs:kZ s)(ht:kZ t)(h:twoSize minus p o s t=.ok z):kZ z:=by
 obtain⟨h1,h2,h3,h4⟩:=hs;obtain⟨g1,g2,g3,g4⟩:=ht;cases o with
 |sum=>obtain⟨_,rfl⟩:=bO h;exact⟨h1,h2,h3,h4⟩
 |diff=>obtain⟨_,rfl⟩:=bO h;exact⟨h1,h2,h3,h4⟩
 |prod=>obtain⟨_,rfl⟩:=bO h;exact⟨h1,h2,g3,g4⟩
 |each=>obtain⟨_,rfl⟩:=bO h;exact⟨h1,h2,h3,h4⟩
 |kron=>
  obtain⟨q,rfl⟩:=bO h;simp only[and_eq_true,decide_eq_true_eq] at q;exact⟨mul_pos h1 g1,q.1,mul_pos h3 g3,q.2⟩
 |beside=>
  obtain⟨q,rfl⟩:=bO h;simp only[and_eq_true,decide_eq_true_eq] at q;exact⟨h1,h2,by show 1<=s.2+t.2;lia,q.2⟩
 |below=>
  obtain⟨q,rfl⟩:=bO h;simp only[and_eq_true,decide_eq_true_eq] at q;exact⟨by show 1<=s.1+t.1;lia,q.2,h3,h4⟩
 |scale=>obtain⟨_,rfl⟩:=bO h;exact⟨g1,g2,g3,g4⟩
theorem dY {n:Nat}:sized n=true↔1<=n/\n<=16:=by
 unfold sized;rw[and_eq_true,decide_eq_true_eq,decide_eq_true_eq];exact Iff.rfl
theorem tD (t:List Mat){k:Nat}(h:k<t.length):(t.map λ(x:Mat)=>(x.rows,x.cols)).getD k (0,0)=((t.getD k noMat).rows,(t.getD k noMat).cols):=by
 rw[getD_eq_getElem?_getD,getD_eq_getElem?_getD,getElem?_map,getElem?_eq_getElem h];rfl
theorem getD_mem (t:List Mat){k:Nat}(h:k<t.length):t.getD k noMat∈t:=by
 rw[getD_eq_getElem?_getD,getElem?_eq_getElem h];exact List.getElem_mem h
theorem Lb {minus:Bool}{tab:List Mat}(hT:∀M∈tab,TF M):∀(t:Tree) (s:Size),Tree.su tab.length t->t.shape minus (tab.map λ(x:Mat)=>(x.rows,x.cols))=.ok s->kZ s
 | .leaf p l,s,hi,h=>by
  cases l with
  |table k=>
   have O:k<tab.length:=hi;simp only[GridTalk.Tree.shape] at h;injection h with h
   rw[tD tab O] at h;subst h;have T:=hT _ (getD_mem tab O);exact⟨T.r1,T.r2,T.c1,T.c2⟩
  |zeros r c=>
   simp only[GridTalk.Tree.shape] at h;obtain⟨q,rfl⟩:=bO h;simp only[and_eq_true,dY] at q;exact⟨q.1.1,q.1.2,q.2.1,q.2.2⟩
  |unit n=>
   simp only[GridTalk.Tree.shape] at h;obtain⟨q,rfl⟩:=bO h;simp only[and_eq_true,dY] at q;exact⟨q.1,q.2,q.1,q.2⟩
  |lit v=>simp only[GridTalk.Tree.shape] at h;injection h with h;subst h;exact⟨by decide,by decide,by decide,by decide⟩
 | .one p o x,s,hi,h=>by
  simp only[GridTalk.Tree.shape] at h;cases e:x.shape minus (tab.map λ(x:Mat)=>(x.rows,x.cols)) with
  |error f=>simp only[e] at h;cases h
  |ok z=>simp only[e] at h;exact NK (Lb hT x z hi e) h
 | .two p o x y,s,hi,h=>by
  simp only[GridTalk.Tree.shape] at h;cases e:x.shape minus (tab.map λ(x:Mat)=>(x.rows,x.cols)) with
  |error f=>simp only[e] at h;cases h
  |ok z=>
   simp only[e] at h;cases e2:y.shape minus (tab.map λ(x:Mat)=>(x.rows,x.cols)) with
   |error f=>simp only[e2] at h;cases h
   |ok z2=>simp only[e2] at h;exact NP (Lb hT x z hi.1 e) (Lb hT y z2 hi.2 e2) h
theorem Kr {a m:Nat}{A:Arith}(hA:arith a m=some A){minus:Bool}{p:Nat}{o:One}{x M:Mat}{z:Size}(hx:WF A x)(hz:oneSize minus p o (x.rows,x.cols)=.ok z)(h:oneValue A p o x=.ok M):M.rows=z.1/\M.cols=z.2/\WF A M:=by
 cases o with
 |turn=>
  injection hz with hz;subst hz;injection h with h;subst h;exact⟨rfl,rfl,UJ hx.c1 hx.c2 hx.r1 hx.r2 λi j hi hj=>hx.at_ hj hi⟩
 |trace=>
  obtain⟨q,rfl⟩:=bO hz;have sq:x.rows=x.cols:=by simpa using q
  exact jG hA (by decide) (by decide) (by decide) (by decide) (λi j y y=>oZ hA _ λz hz=>by
   obtain⟨k,O,rfl⟩:=mem_map.mp hz;have O:=List.mem_range.mp O;exact hx.dom hA O (by lia)) h
 |power e=>
  obtain⟨q,rfl⟩:=bO hz;simp only[and_eq_true,decide_eq_true_eq,beq_iff_eq] at q;obtain⟨m1,m2,hM⟩:=Gv hA hx q.1 e M h;exact⟨m1,m2.trans q.1,hM⟩
 |closure=>
  obtain⟨q,rfl⟩:=bO hz;have sq:x.rows=x.cols:=by simpa using q
  obtain⟨m1,m2,hM⟩:=V1 hA hx sq _ M h;exact⟨m1,m2.trans sq,hM⟩
 |det=>
  obtain⟨q,rfl⟩:=bO hz;simp only[and_eq_true,decide_eq_true_eq,beq_iff_eq] at q;exact jG hA (by decide) (by decide) (by decide) (by decide) (λy y y y=>Qh hA _ _ λi j hi hj=>hx.dom hA hi (by rw[<-q.1];exact hj)) h
 |cut i r j c=>
  obtain⟨q,rfl⟩:=bO hz;simp only[and_eq_true,decide_eq_true_eq] at q;injection h with h;subst h;have:=hx.r2;have:=hx.c2;exact⟨rfl,rfl,UJ q.1 (by lia) q.2.1 (by lia) λu v hu hv=>hx.at_ (by lia) (by lia)⟩
theorem Ks {a m:Nat}{A:Arith}(hA:arith a m=some A){minus:Bool}{p:Nat}{o:Two}{x y M:Mat}{z:Size}(hx:WF A x)(hy:WF A y)(hz:twoSize minus p o (x.rows,x.cols) (y.rows,y.cols)=.ok z)(h:twoValue A p o x y=.ok M):M.rows=z.1/\M.cols=z.2/\WF A M:=by
 cases o with
 |sum=>
  obtain⟨q,rfl⟩:=bO hz;simp only[and_eq_true,beq_iff_eq] at q;exact jG hA hx.r1 hx.r2 hx.c1 hx.c2 (λi j hi hj=>Ar.jU hA _ _ (hx.dom hA hi hj) (hy.dom hA (by lia) (by lia))) h
 |diff=>
  obtain⟨q,rfl⟩:=bO hz;simp only[and_eq_true,beq_iff_eq] at q;exact jG hA hx.r1 hx.r2 hx.c1 hx.c2 (λi j hi hj=>Ar.wu hA _ _ (hx.dom hA hi hj) (hy.dom hA (by lia) (by lia))) h
 |prod=>
  obtain⟨q,rfl⟩:=bO hz;exact vm hA hx hy (by simpa using q) h
 |each=>
  obtain⟨q,rfl⟩:=bO hz;simp only[and_eq_true,beq_iff_eq] at q;exact jG hA hx.r1 hx.r2 hx.c1 hx.c2 (λi j hi hj=>Ar.dX hA _ _ (hx.dom hA hi hj) (hy.dom hA (by lia) (by lia))) h
 |kron=>
  obtain⟨q,rfl⟩:=bO hz;simp only[and_eq_true,decide_eq_true_eq] at q;have r1:=hy.r1;have c1:=hy.c1;exact jG hA (mul_pos hx.r1 hy.r1) q.1 (mul_pos hx.c1 hy.c1) q.2 (λi j hi hj=>Ar.dX hA _ _ (hx.dom hA (div_lt_of_lt_mul (by rw[mul_comm];exact hi)) (div_lt_of_lt_mul (by rw[mul_comm];exact hj))) (hy.dom hA (mod_lt _ (by lia)) (mod_lt _ (by lia)))) h
 |beside=>
  obtain⟨q,rfl⟩:=bO hz;simp only[and_eq_true,decide_eq_true_eq,beq_iff_eq] at q;injection h with h;subst h;have:=hx.c1;refine⟨rfl,rfl,UJ hx.r1 hx.r2 (by lia) q.2 λi j hi hj=>?_⟩;by_cases hc:j<x.cols
  ·simp only[hc,if_true];exact hx.at_ hi hc
  ·simp only[hc,if_false];exact hy.at_ (by lia) (by lia)
 |below=>
  obtain⟨q,rfl⟩:=bO hz;simp only[and_eq_true,decide_eq_true_eq,beq_iff_eq] at q;injection h with h;subst h;have:=hx.r1;refine⟨rfl,rfl,UJ (by lia) q.2 hx.c1 hx.c2 λi j hi hj=>?_⟩;by_cases hc:i<x.rows
  ·simp only[hc,if_true];exact hx.at_ hc hj
  ·simp only[hc,if_false];exact hy.at_ (by lia) (by lia)
 |scale=>
  obtain⟨q,rfl⟩:=bO hz;simp only[and_eq_true,beq_iff_eq] at q;exact jG hA hy.r1 hy.r2 hy.c1 hy.c2 (λi j hi hj=>Ar.dX hA _ _ (hx.dom hA (by lia) (by lia)) (hy.dom hA hi hj)) h
theorem V2 {a m:Nat}{A:Arith}(hA:arith a m=some A){p r c:Nat}{M:Mat}(h1:1<=r)(h2:r<=16)(h3:1<=c)(h4:c<=16)(h:(made A p r c λz z=>A.none_)=.ok M):M.rows=r/\M.cols=c/\WF A M:=
 jG hA h1 h2 h3 h4 (λz z z z=>Ar.oF hA) h
def Tree.lits:Tree->Prop
 | .leaf _ (.lit v)=>v<18446744073709551616
 | .leaf _ _=>True
 | .one _ _ x=>Tree.lits x
 | .two _ _ x y=>Tree.lits x/\Tree.lits y
theorem Qi {b:List Nat}(h:∀x∈b,x<18446744073709551616)(i:Nat):b.getD i 0<18446744073709551616:=by
 rw[getD_eq_getElem?_getD];cases e:b[i]? with
 |none=>decide
 |some x=>exact h x (mem_of_getElem? e)
theorem Ku {k c:Nat}{b:List Nat}{l:Leaf}(hb:∀x∈b,x<18446744073709551616)(h:leafOf k c b=some l)(p:Nat):Tree.lits (.leaf p l):=by
 unfold leafOf at h;split at h
 ·split at h
  ·injection h with h;subst h;trivial
  ·cases h
 ·split at h
  ·injection h with h;subst h;trivial
  ·split at h
   ·injection h with h;subst h;trivial
   ·split at h
    ·injection h with h;subst h;exact Qi hb 0
    ·cases h
theorem yq (k:Nat):∀(d p:Nat) (b:List Nat) (t:Tree) (q:Nat) (s:List Nat),(∀x∈b,x<18446744073709551616)->GridTalk.read k d p b=.ok (t,q,s)->Tree.lits t/\∀x∈s,x∈b
 |0,p,b,t,q,s,hb,h=>by
  cases b with
  |nil=>simp[GridTalk.read] at h
  |cons c r=>
   rw[GridTalk.read] at h;cases e:leafOf k c r with
   |none=>simp[e] at h
   |some l=>
    simp only[e] at h;obtain⟨_,h⟩:=oY h;injection h with h;injection h with h1 h2;injection h2 with h2 h3;subst h1 h3
    exact⟨Ku (λx hx=>hb x (mem_cons_of_mem _ hx)) e p,λx hx=>mem_cons_of_mem _ (List.mem_of_mem_drop hx)⟩
 |d+1,p,b,t,q,s,hb,h=>by
  cases b with
  |nil=>simp[GridTalk.read] at h
  |cons c r=>
   have hr:∀x∈r,x<18446744073709551616:=λx hx=>hb x (mem_cons_of_mem _ hx);rw[GridTalk.read] at h;cases e:leafOf k c r with
   |some l=>
    simp only[e] at h;obtain⟨_,h⟩:=oY h;injection h with h;injection h with h1 h2;injection h2 with h2 h3;subst h1 h3
    exact⟨Ku hr e p,λx hx=>mem_cons_of_mem _ (List.mem_of_mem_drop hx)⟩
   |none=>
    simp only[e] at h;cases e1:oneOf c r with
    |some o=>
     simp only[e1] at h;obtain⟨_,h⟩:=oY h;cases e2:GridTalk.read k d (p+1+numbers c) (r.drop (numbers c)) with
     |error f=>simp[e2] at h
     |ok z=>
      obtain⟨x,u,v⟩:=z;simp only[e2] at h;injection h with h;injection h with h1 h2;injection h2 with h2 h3;subst h1 h3;obtain⟨i1,i2⟩:=yq k d _ _ _ _ _ (λx hx=>hr x (List.mem_of_mem_drop hx)) e2;exact⟨i1,λx hx=>mem_cons_of_mem _ (List.mem_of_mem_drop (i2 x hx))⟩
    |none=>
     simp only[e1] at h;cases e2:twoOf c with
     |none=>simp[e2] at h
     |some o=>
      simp only[e2] at h;cases e3:GridTalk.read k d (p+1) r with
      |error f=>simp[e3] at h
      |ok z=>
       obtain⟨x,u,v⟩:=z;simp only[e3] at h;obtain⟨i1,i2⟩:=yq k d _ _ _ _ _ hr e3;cases e4:GridTalk.read k d u v with
       |error f=>simp[e4] at h
       |ok z'=>
        obtain⟨y,u',v'⟩:=z';simp only[e4] at h;injection h with h;injection h with h1 h2;injection h2 with h2 h3;subst h1 h3;obtain⟨j1,j2⟩:=yq k d _ _ _ _ _ (λx hx=>hr x (i2 x hx)) e4;exact⟨⟨i1,j1⟩,λx hx=>mem_cons_of_mem _ (i2 x (j2 x hx))⟩
theorem vo {k:Nat}{b:List Nat}{t:Tree}(hb:∀x∈b,x<18446744073709551616)(h:parse k b=.ok t):Tree.lits t:=by
 unfold parse at h;split at h
 ·cases h
 ·split at h
  ·rename_i e;injection h with h;subst h;exact(yq k _ _ _ _ _ _ hb e).1
  ·cases h
  ·cases h
theorem all_flat {A:Arith}{c r:Nat}{l:List Nat}(hl:l.length=r*c)(h:((rowsOf c r l).all λ(r:List Nat)=>r.all A.number)=true):∀x∈l,A.number x=true:=by
 intro x hx;rw[<-cZ.fu c r l hl] at hx;obtain⟨row,hr,hx⟩:=List.mem_flatten.mp hx;exact all_eq_true.mp (all_eq_true.mp h row hr) x hx
theorem wA {a m:Nat}{A:Arith}(hA:arith a m=some A){minus:Bool}{tab:List Mat}(hT:∀M∈tab,TF M):∀(t:Tree) (s:Size) (M:Mat),Tree.su tab.length t->Tree.lits t->t.bad A tab=none->
  t.shape minus (tab.map λ(x:Mat)=>(x.rows,x.cols))=.ok s->t.value A tab=.ok M->M.rows=s.1/\M.cols=s.2/\WF A M
 | .leaf p l,s,M,hi,hl,hb,hs,h=>by
  cases l with
  |table k=>
   have O:k<tab.length:=hi;simp only[GridTalk.Tree.shape] at hs;simp only[GridTalk.Tree.value] at h;simp only[GridTalk.Tree.bad] at hb;injection hs with hs
   rw[tD tab O] at hs;subst hs;injection h with h;subst h
   have T:=hT _ (getD_mem tab O);obtain⟨l,hl,hw,hx⟩:=T.ex;split at hb
   ·rename_i q;rw[hw] at q;exact⟨rfl,rfl,T.r1,T.r2,T.c1,T.c2,l,hl,hw,λx hxx=>⟨hx x hxx,all_flat hl q x hxx⟩⟩
   ·cases hb
  |zeros r c=>
   simp only[GridTalk.Tree.shape] at hs;simp only[GridTalk.Tree.value] at h;obtain⟨q,rfl⟩:=bO hs;simp only[and_eq_true,dY] at q;exact V2 hA q.1.1 q.1.2 q.2.1 q.2.2 h
  |unit n=>
   simp only[GridTalk.Tree.shape] at hs;simp only[GridTalk.Tree.value] at h;obtain⟨q,rfl⟩:=bO hs;simp only[and_eq_true,dY] at q;exact Ab hA q.1 q.2 h
  |lit v=>
   simp only[GridTalk.Tree.shape] at hs;simp only[GridTalk.Tree.value] at h;simp only[GridTalk.Tree.bad] at hb;injection hs with hs;subst hs
   injection h with h;subst h;refine⟨rfl,rfl,Nat.le_refl 1,(by decide:1<=16),Nat.le_refl 1,(by decide:1<=16),[v],rfl,rfl,λx hx=>?_⟩;have e:x=v:=by simpa using hx
   subst e;split at hb
   ·exact⟨hl,by assumption⟩
   ·cases hb
 | .one p o x,s,M,hi,hl,hb,hs,h=>by
  simp only[GridTalk.Tree.shape] at hs;simp only[GridTalk.Tree.value] at h;simp only[GridTalk.Tree.bad] at hb;cases e:x.shape minus (tab.map λ(x:Mat)=>(x.rows,x.cols)) with
  |error f=>simp only[e] at hs;cases hs
  |ok z=>
   simp only[e] at hs;cases e2:x.value A tab with
   |error f=>simp only[e2] at h;cases h
   |ok u=>
    simp only[e2] at h;obtain⟨u1,u2,hu⟩:=wA hA hT x z u hi hl hb e e2;have ez:z=(u.rows,u.cols):=by rw[u1,u2]
    rw[ez] at hs;exact Kr hA hu hs h
 | .two p o x y,s,M,hi,hl,hb,hs,h=>by
  simp only[GridTalk.Tree.shape] at hs;simp only[GridTalk.Tree.value] at h;simp only[GridTalk.Tree.bad] at hb;cases b1:x.bad A tab with
  |some q=>simp only[b1] at hb;cases hb
  |none=>
   simp only[b1] at hb;cases e:x.shape minus (tab.map λ(x:Mat)=>(x.rows,x.cols)) with
   |error f=>simp only[e] at hs;cases hs
   |ok z=>
    simp only[e] at hs;cases f2:y.shape minus (tab.map λ(x:Mat)=>(x.rows,x.cols)) with
    |error f=>simp only[f2] at hs;cases hs
    |ok z2=>
     simp only[f2] at hs;cases e2:x.value A tab with
     |error f=>simp only[e2] at h;cases h
     |ok u=>
      cases e3:y.value A tab with
      |error f=>simp only[e2,e3] at h;cases h
      |ok v=>
       simp only[e2,e3] at h;obtain⟨u1,u2,hu⟩:=wA hA hT x z u hi.1 hl.1 b1 e e2;obtain⟨v1,v2,hv⟩:=wA hA hT y z2 v hi.2 hl.2 hb f2 e3;have ez:z=(u.rows,u.cols):=by rw[u1,u2]
       have ez2:z2=(v.rows,v.cols):=by rw[v1,v2]
       rw[ez,ez2] at hs;exact Ks hA hu hv hs h
end Vl
namespace Pw
open GridTalk
structure Lw (D:Int->Prop)(R:Int->Int->Prop)(pl ti:Int->Int->Int)(no on:Int):Prop where
 refl:∀x,R x x
 symm:∀{x y},R x y->R y x
 trans:∀{x y z},R x y->R y z->R x z
 dp:∀{x y},D x->D y->D (pl x y)
 dt:∀{x y},D x->D y->D (ti x y)
 Kv:D no
 don:D on
 cp:∀{x x' y y'},D x->D x'->D y->D y'->R x x'->R y y'->R (pl x y) (pl x' y')
 ct:∀{x x' y y'},D x->D x'->D y->D y'->R x x'->R y y'->R (ti x y) (ti x' y')
 pa:∀x y z,pl (pl x y) z=pl x (pl y z)
 pc:∀x y,pl x y=pl y x
 ta:∀{x y z},D x->D y->D z->R (ti (ti x y) z) (ti x (ti y z))
 dl:∀{x y z},D x->D y->D z->R (ti x (pl y z)) (pl (ti x y) (ti x z))
 dr:∀{x y z},D x->D y->D z->R (ti (pl x y) z) (pl (ti x z) (ti y z))
 nl:∀{x},D x->R (ti no x) no
 nr:∀{x},D x->R (ti x no) no
 pn:∀{x},D x->R (pl no x) x
 ol:∀{x},D x->R (ti on x) x
 or_:∀{x},D x->R (ti x on) x
noncomputable def S (pl:Int->Int->Int)(no:Int):Nat->(Nat->Int)->Int
 |0,_=>no
 |n+1,f=>pl (S pl no n f) (f n)
section
variable {D:Int->Prop}{R:Int->Int->Prop}{pl ti:Int->Int->Int}{no on:Int}(L:Lw D R pl ti no on)
include L
theorem fW:∀{n:Nat}{f:Nat->Int},(∀i,i<n->D (f i))->D (S pl no n f)
 |0,_,_=>L.Kv
 |n+1,f,h=>L.dp (fW λi hi=>h i (by lia)) (h n (by lia))
theorem dh:∀{n:Nat}{f g:Nat->Int},(∀i,i<n->D (f i))->(∀i,i<n->D (g i))->(∀i,i<n->R (f i) (g i))->R (S pl no n f) (S pl no n g)
 |0,_,_,_,_,_=>L.refl _
 |n+1,f,g,hf,hg,h=>L.cp (fW L λi hi=>hf i (by lia)) (fW L λi hi=>hg i (by lia)) (hf n (by lia)) (hg n (by lia)) (dh (λi hi=>hf i (by lia)) (λi hi=>hg i (by lia)) λi hi=>h i (by lia)) (h n (by lia))
theorem swap4 (x y z w:Int):pl (pl x y) (pl z w)=pl (pl x z) (pl y w):=by
 rw[L.pa,L.pa, <-L.pa y z w,L.pc y z,L.pa z y w]
theorem S_add:∀{n:Nat}{f g:Nat->Int},(∀i,i<n->D (f i))->(∀i,i<n->D (g i))->R (S pl no n λi=>pl (f i) (g i)) (pl (S pl no n f) (S pl no n g))
 |0,_,_,_,_=>L.symm (L.pn L.Kv)
 |n+1,f,g,hf,hg=>by
  show R (pl (S pl no n _) (pl (f n) (g n))) (pl (pl (S pl no n f) (f n)) (pl (S pl no n g) (g n)));rw[swap4 L];have a:=fW L (n:=n) (f:=f) λi hi=>hf i (by lia);have b:=fW L (n:=n) (f:=g) λi hi=>hg i (by lia);have c:=L.dp (hf n (by lia)) (hg n (by lia));exact L.cp (fW L λi hi=>L.dp (hf i (by lia)) (hg i (by lia))) (L.dp a b) c c (S_add (λi hi=>hf i (by lia)) λi hi=>hg i (by lia)) (L.refl _)
theorem S_mulL {c:Int}(hc:D c):∀{n:Nat}{f:Nat->Int},(∀i,i<n->D (f i))->R (ti c (S pl no n f)) (S pl no n λi=>ti c (f i))
 |0,_,_=>L.nr hc
 |n+1,f,hf=>by
  have a:=fW L (n:=n) (f:=f) λi hi=>hf i (by lia);have b:=hf n (by lia);refine L.trans (L.dl hc a b) (L.cp (L.dt hc a) (fW L λi hi=>L.dt hc (hf i (by lia))) (L.dt hc b) (L.dt hc b) (S_mulL hc λi hi=>hf i (by lia)) (L.refl _))
theorem NQ {c:Int}(hc:D c):∀{n:Nat}{f:Nat->Int},(∀i,i<n->D (f i))->R (ti (S pl no n f) c) (S pl no n λi=>ti (f i) c)
 |0,_,_=>L.nl hc
 |n+1,f,hf=>by
  have a:=fW L (n:=n) (f:=f) λi hi=>hf i (by lia);have b:=hf n (by lia);refine L.trans (L.dr a b hc) (L.cp (L.dt a hc) (fW L λi hi=>L.dt (hf i (by lia)) hc) (L.dt b hc) (L.dt b hc) (NQ hc λi hi=>hf i (by lia)) (L.refl _))
theorem V3:∀{n:Nat},R (S pl no n λz=>no) no
 |0=>L.refl _
 |n+1=>by
  have a:=fW L (n:=n) (f:=λz=>no) λi hi=>L.Kv;show R (pl (S pl no n λz=>no) no) no;rw[L.pc];exact L.trans (L.pn a) V3
theorem Gw {k:Nat}:∀{n:Nat}{f:Nat->Nat->Int},(∀i j,i<n->j<k->D (f i j))->R (S pl no n λi=>S pl no k λj=>f i j) (S pl no k λj=>S pl no n λi=>f i j)
 |0,f,_=>L.symm (V3 L)
 |n+1,f,hf=>by
  have a:D (S pl no n λi=>S pl no k λj=>f i j):=fW L λi hi=>fW L λj hj=>hf i j (by lia) hj;have b:D (S pl no k λj=>S pl no n λi=>f i j):=fW L λj hj=>fW L λi hi=>hf i j (by lia) hj;have c:D (S pl no k λj=>f n j):=fW L λj hj=>hf n j (by lia) hj;refine L.trans (L.cp a b c c (Gw λi j hi hj=>hf i j (by lia) hj) (L.refl _)) (L.symm (S_add L (λj hj=>fW L λi hi=>hf i j (by lia) hj) λj hj=>hf n j (by lia) hj))
theorem Le {x:Int}(hx:D x):∀{n k:Nat},k<n->R (S pl no n λi=>if i=k then x else no) x
 |0,k,h=>by lia
 |n+1,k,h=>by
  show R (pl (S pl no n λi=>if i=k then x else no) (if n=k then x else no)) x;by_cases e:n=k
  ·rw[if_pos e];have a:R (S pl no n λi=>if i=k then x else no) no:=by
    refine L.trans (dh L (g:=λz=>no) (λi hi=>?_) (λz z=>L.Kv) λi hi=>?_) (V3 L)
    ·show D (if i=k then x else no);split
     ·exact hx
     ·exact L.Kv
    ·show R (if i=k then x else no) no;rw[if_neg (by lia)];exact L.refl _
   refine L.trans (L.cp (fW L λi hi=>?_) L.Kv hx hx a (L.refl _)) (L.pn hx);show D (if i=k then x else no);split
   ·exact hx
   ·exact L.Kv
  ·rw[if_neg e,L.pc];have d:D (S pl no n λi=>if i=k then x else no):=fW L λi hi=>by
    show D (if i=k then x else no);split
    ·exact hx
    ·exact L.Kv
   exact L.trans (L.pn d) (Le hx (by lia))
theorem assoc {n:Nat}{f g h:Nat->Nat->Int}{i j:Nat}(hf:∀k,k<n->D (f i k))(hg:∀k l,k<n->l<n->D (g k l))(hh:∀l,l<n->D (h l j)):
  R (S pl no n λl=>ti (S pl no n λk=>ti (f i k) (g k l)) (h l j)) (S pl no n λk=>ti (f i k) (S pl no n λl=>ti (g k l) (h l j))):=by
 have d1:∀l,l<n->D (S pl no n λk=>ti (f i k) (g k l)):=λl hl=>fW L λk O=>L.dt (hf k O) (hg k l O hl);have d2:∀k,k<n->D (S pl no n λl=>ti (g k l) (h l j)):=λk O=>fW L λl hl=>L.dt (hg k l O hl) (hh l hl);have d3:∀k l,k<n->l<n->D (ti (ti (f i k) (g k l)) (h l j)):=λk l O hl=>L.dt (L.dt (hf k O) (hg k l O hl)) (hh l hl);have d4:∀k l,k<n->l<n->D (ti (f i k) (ti (g k l) (h l j))):=λk l O hl=>L.dt (hf k O) (L.dt (hg k l O hl) (hh l hl));have s1:R (S pl no n λl=>ti (S pl no n λk=>ti (f i k) (g k l)) (h l j)) (S pl no n λl=>S pl no n λk=>ti (ti (f i k) (g k l)) (h l j)):=
  dh L (λl hl=>L.dt (d1 l hl) (hh l hl)) (λl hl=>fW L λk O=>d3 k l O hl) λl hl=>NQ L (hh l hl) λk O=>L.dt (hf k O) (hg k l O hl)
 have s2:R (S pl no n λl=>S pl no n λk=>ti (ti (f i k) (g k l)) (h l j)) (S pl no n λk=>S pl no n λl=>ti (ti (f i k) (g k l)) (h l j)):=
  Gw L λl k hl O=>d3 k l O hl
 have s3:R (S pl no n λk=>S pl no n λl=>ti (ti (f i k) (g k l)) (h l j)) (S pl no n λk=>ti (f i k) (S pl no n λl=>ti (g k l) (h l j))):=
  dh L (λk O=>fW L λl hl=>d3 k l O hl) (λk O=>L.dt (hf k O) (d2 k O)) λk O=>
   L.trans (dh L (λl hl=>d3 k l O hl) (λl hl=>d4 k l O hl) λl hl=>L.ta (hf k O) (hg k l O hl) (hh l hl)) (L.symm (S_mulL L (hf k O) λl hl=>L.dt (hg k l O hl) (hh l hl)))
 exact L.trans s1 (L.trans s2 s3)
end
theorem Zt {a m:Nat}{A:Arith}(h:arith a m=some A)(f:Nat->Int):∀n:Nat,A.total ((range n).map f)=S A.plus A.none_ n f
 |0=>rfl
 |n+1=>by
  rw[Ar.pR h,range_succ,map_append,foldl_append, <-Ar.pR h,Zt h f n];rfl
abbrev RW (A:Arith)(x y:Int):Prop:=A.word x=A.word y
theorem cX {f:Nat->Nat->Nat}(x y:Int):(bits f x y).toNat=f x.toNat y.toNat:=toNat_natCast _
theorem Gx {a m:Nat}{f g:Nat->Nat->Nat}{o:Int}{mi:Option (Int->Int->Int)}(hA:arith a m=some (lanes (bits f) (bits g) 0 o mi))(h4:4<=a)
  (ta:∀x y z,g (g x y) z=g x (g y z)) (dl:∀x y z,g x (f y z)=f (g x y) (g x z)) (dr:∀x y z,g (f x y) z=f (g x z) (g y z)) (nl:∀x,g 0 x=0) (nr:∀x,g x 0=0) (pn:∀x,f 0 x=x)
  (ol:∀x,x<18446744073709551616->g o.toNat x=x) (or_:∀x,x<18446744073709551616->g x o.toNat=x):Lw (Ar.Dom a) (RW (lanes (bits f) (bits g) 0 o mi)) (bits f) (bits g) 0 o:=by
 have un:∀{x y:Int},Ar.Dom a x->Ar.Dom a y->some x.toNat=some y.toNat->x=y:=λ{x y} hx hy h=>by
  injection h with h;rw[Ar.fO h4] at hx hy;lia
 have mk:∀{x y:Int},x.toNat=y.toNat->some x.toNat=some y.toNat:=λh=>by rw[h]
 refine⟨λw=>rfl,λh=>h.symm,λh k=>h.trans k,λhx hy=>Ar.jU hA _ _ hx hy,λhx hy=>Ar.dX hA _ _ hx hy,Ar.oF hA,Ar.vO hA,?_,?_,Ar.Cq hA,Ar.Gp hA,?_,?_,?_,?_,?_,?_,?_,?_⟩
 ·intro x x' y y' dx m6 dy Ac h k;have h:=un dx m6 h;have k:=un dy Ac k;subst h k;rfl
 ·intro x x' y y' dx m6 dy Ac h k;have h:=un dx m6 h;have k:=un dy Ac k;subst h k;rfl
 ·intro x y z _ _ _;refine mk ?_;rw[cX,cX,cX,cX,ta]
 ·intro x y z _ _ _;refine mk ?_;rw[cX,cX,cX,cX,cX,dl]
 ·intro x y z _ _ _;refine mk ?_;rw[cX,cX,cX,cX,cX,dr]
 ·intro x _;refine mk ?_;rw[cX];exact nl _
 ·intro x _;refine mk ?_;rw[cX];exact nr _
 ·intro x _;refine mk ?_;rw[cX];exact pn _
 ·intro x dx;rw[Ar.fO h4] at dx;refine mk ?_;rw[cX];exact ol _ (by lia)
 ·intro x dx;rw[Ar.fO h4] at dx;refine mk ?_;rw[cX];exact or_ _ (by lia)
theorem Zu (x y T:Int):min (min x y) T=min (min x T) (min y T):=by
 rw[min_assoc,min_assoc, <-min_assoc T,Int.min_comm T,min_assoc y,min_self]
theorem Zv {x y T:Int}(hx:0<=x)(hy:0<=y)(ht:0<=T):min (x+y) T=min (min x T+min y T) T:=by
 rcases Int.le_total x T with a|a<;>rcases Int.le_total y T with b|b<;>simp only[Int.min_eq_left,min_eq_right,a,b]<;>rw[min_eq_right,min_eq_right]<;>lia
theorem laws {a m:Nat}{A:Arith}(hA:arith a m=some A)(h2:a≠2):Lw (Ar.Dom a) (RW A) A.plus A.times A.none_ A.one:=by
 have eT:TOP=18446744073709551615:=by decide
 have aq:∀(cp:∀{x x' y y'},Ar.Dom a x->Ar.Dom a x'->Ar.Dom a y->Ar.Dom a y'->RW A x x'->RW A y y'->RW A (A.plus x y) (A.plus x' y'))
   (ct:∀{x x' y y'},Ar.Dom a x->Ar.Dom a x'->Ar.Dom a y->Ar.Dom a y'->RW A x x'->RW A y y'->RW A (A.times x y) (A.times x' y'))
   (ta:∀{x y z},Ar.Dom a x->Ar.Dom a y->Ar.Dom a z->RW A (A.times (A.times x y) z) (A.times x (A.times y z)))
   (dl:∀{x y z},Ar.Dom a x->Ar.Dom a y->Ar.Dom a z->RW A (A.times x (A.plus y z)) (A.plus (A.times x y) (A.times x z)))
   (dr:∀{x y z},Ar.Dom a x->Ar.Dom a y->Ar.Dom a z->RW A (A.times (A.plus x y) z) (A.plus (A.times x z) (A.times y z)))
   (nl:∀{x},Ar.Dom a x->RW A (A.times A.none_ x) A.none_) (nr:∀{x},Ar.Dom a x->RW A (A.times x A.none_) A.none_) (pn:∀{x},Ar.Dom a x->RW A (A.plus A.none_ x) x)
   (ol:∀{x},Ar.Dom a x->RW A (A.times A.one x) x) (or_:∀{x},Ar.Dom a x->RW A (A.times x A.one) x),Lw (Ar.Dom a) (RW A) A.plus A.times A.none_ A.one:=
  λcp ct ta dl dr nl nr pn ol or_=>⟨λw=>rfl,λh=>h.symm,λh k=>h.trans k,λhx hy=>Ar.jU hA _ _ hx hy,λhx hy=>Ar.dX hA _ _ hx hy,Ar.oF hA,Ar.vO hA,cp,ct,Ar.Cq hA,Ar.Gp hA,ta,dl,dr,nl,nr,pn,ol,or_⟩
 have RK:∀(n:Int) (hn:0<n) (x x':Int),some (x%n).toNat=some (x'%n).toNat->x%n=x'%n:=λn hn x x' h=>by
  injection h with h;have h1:=Int.emod_nonneg x (show n≠0 by lia);have h2:=Int.emod_nonneg x' (show n≠0 by lia);lia
 rcases Ar.cV hA with⟨rfl,rfl,rfl⟩|⟨rfl,m1,m2,rfl⟩|⟨rfl,rfl,rfl⟩|⟨rfl,rfl,rfl⟩|⟨rfl,rfl,rfl⟩|⟨rfl,rfl,rfl⟩|⟨rfl,rfl,rfl⟩|⟨rfl,m2,rfl⟩
 ·have key:=RK (WORD:Int) (by decide);refine aq ?_ ?_ ?_ ?_ ?_ ?_ ?_ ?_ ?_ ?_
  ·intro x x' y y' _ _ _ _ h k;show some ((x+y)%(WORD:Int)).toNat=some ((x'+y')%(WORD:Int)).toNat;rw[add_emod,key _ _ h,key _ _ k, <-add_emod]
  ·intro x x' y y' _ _ _ _ h k;show some ((x*y)%(WORD:Int)).toNat=some ((x'*y')%(WORD:Int)).toNat;rw[mul_emod,key _ _ h,key _ _ k, <-mul_emod]
  ·intro x y z _ _ _;show RW _ (x*y*z) (x*(y*z));rw[Int.mul_assoc]
  ·intro x y z _ _ _;show RW _ (x*(y+z)) (x*y+x*z);rw[Int.mul_add]
  ·intro x y z _ _ _;show RW _ ((x+y)*z) (x*z+y*z);rw[Int.add_mul]
  ·intro x _;show RW _ (0*x) 0;rw[Int.zero_mul]
  ·intro x _;show RW _ (x*0) 0;rw[Int.mul_zero]
  ·intro x _;show RW _ (0+x) x;rw[Int.zero_add]
  ·intro x _;show RW _ (1*x) x;rw[Int.one_mul]
  ·intro x _;show RW _ (x*1) x;rw[Int.mul_one]
 ·have key:=RK (m:Int) (by lia);refine aq ?_ ?_ ?_ ?_ ?_ ?_ ?_ ?_ ?_ ?_
  ·intro x x' y y' _ _ _ _ h k;show some ((x+y)%(m:Int)).toNat=some ((x'+y')%(m:Int)).toNat;rw[add_emod,key _ _ h,key _ _ k, <-add_emod]
  ·intro x x' y y' _ _ _ _ h k;show some ((x*y)%(m:Int)).toNat=some ((x'*y')%(m:Int)).toNat;rw[mul_emod,key _ _ h,key _ _ k, <-mul_emod]
  ·intro x y z _ _ _;show RW _ (x*y*z) (x*(y*z));rw[Int.mul_assoc]
  ·intro x y z _ _ _;show RW _ (x*(y+z)) (x*y+x*z);rw[Int.mul_add]
  ·intro x y z _ _ _;show RW _ ((x+y)*z) (x*z+y*z);rw[Int.add_mul]
  ·intro x _;show RW _ (0*x) 0;rw[Int.zero_mul]
  ·intro x _;show RW _ (x*0) 0;rw[Int.mul_zero]
  ·intro x _;show RW _ (0+x) x;rw[Int.zero_add]
  ·intro x _;show RW _ (1*x) x;rw[Int.one_mul]
  ·intro x _;show RW _ (x*1) x;rw[Int.mul_one]
 ·exact absurd rfl h2
 ·have un:∀{x y:Int},Ar.Dom 3 x->Ar.Dom 3 y->some (min x TOP).toNat=some (min y TOP).toNat->min x TOP=min y TOP:=λ{x y} hx hy h=>by
   injection h with h;exact(Int.toNat_of_nonneg (Int.le_min.2 ⟨Ar.rC.1 hx,by decide⟩)).symm.trans ((congrArg _ h).trans (Int.toNat_of_nonneg (Int.le_min.2 ⟨Ar.rC.1 hy,by decide⟩)))
  have mk:∀{x y:Int},min x TOP=min y TOP->some (min x TOP).toNat=some (min y TOP).toNat:=λh=>by rw[h]
  refine aq ?_ ?_ ?_ ?_ ?_ ?_ ?_ ?_ ?_ ?_
  ·intro x x' y y' dx m6 dy Ac h k;have h:=un dx m6 h;have k:=un dy Ac k;refine mk (x:=min x y) (y:=min x' y') ?_;rw[Zu,h,k, <-Zu]
  ·intro x x' y y' dx m6 dy Ac h k;have h:=un dx m6 h;have k:=un dy Ac k;rw[Ar.rC] at dx m6 dy Ac;have t0:(0:Int)<=TOP:=by decide
   refine mk (x:=x+y) (y:=x'+y') ?_;rw[Zv dx dy t0,h,k, <-Zv m6 Ac t0]
  ·intro x y z _ _ _;exact mk (congrArg (min · TOP) (add_assoc x y z))
  ·intro x y z _ _ _;exact mk (congrArg (min · TOP) (Int.min_add_left x y z).symm)
  ·intro x y z _ _ _;exact mk (congrArg (min · TOP) (Int.min_add_right x y z).symm)
  ·intro x dx;rw[Ar.rC] at dx;exact mk (x:=TOP+x) (y:=TOP) ((min_eq_right (Int.le_add_of_nonneg_right dx)).trans (min_self _).symm)
  ·intro x dx;rw[Ar.rC] at dx;exact mk (x:=x+TOP) (y:=TOP) ((min_eq_right (Int.le_add_of_nonneg_left dx)).trans (min_self _).symm)
  ·intro x dx;exact mk (x:=min TOP x) (y:=x) (by rw[Int.min_comm TOP,min_assoc,min_self])
  ·intro x dx;exact mk (congrArg (min · TOP) (Int.zero_add x))
  ·intro x dx;exact mk (congrArg (min · TOP) (Int.add_zero x))
 ·have un:∀{x y:Int},Ar.Dom 4 x->Ar.Dom 4 y->some x.toNat=some y.toNat->x=y:=λ{x y} hx hy h=>by
   injection h with h;rw[Ar.fO (by lia)] at hx hy;lia
  have mk:∀{x y:Int},x=y->some x.toNat=some y.toNat:=λh=>by rw[h]
  refine aq ?_ ?_ ?_ ?_ ?_ ?_ ?_ ?_ ?_ ?_
  ·intro x x' y y' dx m6 dy Ac h k;have h:=un dx m6 h;have k:=un dy Ac k;subst h k;rfl
  ·intro x x' y y' dx m6 dy Ac h k;have h:=un dx m6 h;have k:=un dy Ac k;subst h k;rfl
  ·intro x y z _ _ _;exact mk (min_assoc x y z)
  ·intro x y z _ _ _;exact mk (Int.min_max_distrib_left x y z)
  ·intro x y z _ _ _;exact mk (Int.min_max_distrib_right x y z)
  ·intro x dx;rw[Ar.fO (by lia)] at dx;exact mk (Int.min_eq_left dx.1)
  ·intro x dx;rw[Ar.fO (by lia)] at dx;exact mk (min_eq_right dx.1)
  ·intro x dx;rw[Ar.fO (by lia)] at dx;exact mk (Int.max_eq_right dx.1)
  ·intro x dx;rw[Ar.fO (by lia)] at dx;exact mk (min_eq_right (Int.le_of_lt_add_one dx.2))
  ·intro x dx;rw[Ar.fO (by lia)] at dx;exact mk (Int.min_eq_left (Int.le_of_lt_add_one dx.2))
 ·refine Gx hA (by lia) Nat.and_assoc Nat.and_or_distrib_left Nat.and_or_distrib_right Nat.zero_and Nat.and_zero Nat.zero_or (λx h=>?_) (λx h=>?_)
  ·exact Poly.Cr x h
  ·show land x _=x;exact(Nat.and_comm _ _).trans (Poly.Cr x h)
 ·refine Gx hA (by lia) Nat.and_assoc (λw w w=>Nat.and_xor_distrib_left) (λw w w=>Nat.and_xor_distrib_right) Nat.zero_and Nat.and_zero Nat.zero_xor (λx h=>?_) (λx h=>?_)
  ·exact Poly.Cr x h
  ·show land x _=x;exact(Nat.and_comm _ _).trans (Poly.Cr x h)
 ·exact Gx hA (by lia) (Poly.Ys m) (Poly.Yt m) (Poly.Km m) (Poly.Gq m) (Poly.V0 m) Nat.zero_xor (Poly.Ko m) (Poly.Yu m)
theorem pA {a m:Nat}{A:Arith}(hA:arith a m=some A){w:Nat}(hw:w<18446744073709551616)(hn:A.number w=true):A.word (A.mean w)=some w:=by
 have eT:TOP=18446744073709551615:=by decide
 rcases Ar.cV hA with⟨rfl,rfl,rfl⟩|⟨rfl,m1,m2,rfl⟩|⟨rfl,rfl,rfl⟩|⟨rfl,rfl,rfl⟩|⟨rfl,rfl,rfl⟩|⟨rfl,rfl,rfl⟩|⟨rfl,rfl,rfl⟩|⟨rfl,m2,rfl⟩
 ·show some ((w:Int)%(WORD:Int)).toNat=some w;have:(WORD:Int)=18446744073709551616:=rfl;rw[this];congr 1;lia
 ·show some ((w:Int)%(m:Int)).toNat=some w;have hn:w<m:=of_decide_eq_true hn;rw[Int.emod_eq_of_lt (by lia) (by lia)];congr 1
 ·show(if-(HALF:Int)<=signed w/\signed w<(HALF:Int) then some (signed w%(WORD:Int)).toNat else none)=some w;have e1:(HALF:Int)=9223372036854775808:=rfl;have e2:(WORD:Int)=18446744073709551616:=rfl;have e3:HALF=9223372036854775808:=rfl;unfold signed;rw[e1,e2,e3];split
  ·rw[if_pos (by lia)];congr 1;lia
  ·rw[if_pos (by lia)];congr 1;lia
 ·show some (min (w:Int) TOP).toNat=some w;rw[eT];congr 1;lia
 all_goals (show some ((w:Int)).toNat=some w;congr 1)
theorem fits {a m:Nat}{A:Arith}(hA:arith a m=some A)(h2:a≠2)(z:Int):∃w,A.word z=some w:=by
 rcases Ar.cV hA with⟨rfl,rfl,rfl⟩|⟨rfl,m1,m2,rfl⟩|⟨rfl,rfl,rfl⟩|⟨rfl,rfl,rfl⟩|⟨rfl,rfl,rfl⟩|⟨rfl,rfl,rfl⟩|⟨rfl,rfl,rfl⟩|⟨rfl,m2,rfl⟩
 ·exact⟨_,rfl⟩
 ·exact⟨_,rfl⟩
 ·exact absurd rfl h2
 all_goals exact⟨_,rfl⟩
theorem mat_ext {A:Arith}{x y:Mat}(hx:Vl.WF A x)(hy:Vl.WF A y)(hr:x.rows=y.rows)(hc:x.cols=y.cols)(h:∀i j,i<x.rows->j<x.cols->x.at_ i j=y.at_ i j):x=y:=by
 obtain⟨l,hl,hw,_⟩:=hx.ex;obtain⟨k,O,hv,_⟩:=hy.ex;have ex:x=⟨x.rows,x.cols,rowsOf x.cols x.rows l⟩:=by cases x;simp at hw;subst hw;rfl
 have ey:y=⟨x.rows,x.cols,rowsOf x.cols x.rows k⟩:=by cases y;simp at hv hr hc;subst hv;subst hr hc;rfl
 have e:l=k:=by
  apply ext_getElem?;intro i;by_cases hi:i<x.rows*x.cols
  ·have hc0:0<x.cols:=by have:=hx.c1;lia
   have h1:i/x.cols<x.rows:=div_lt_of_lt_mul (by rw[mul_comm];exact hi);have h2:i%x.cols<x.cols:=mod_lt _ hc0;have q:=h _ _ h1 h2;rw[ex,ey,cZ.vP _ _ _ h1 h2,cZ.vP _ _ _ h1 h2] at q;have e:i/x.cols*x.cols+i%x.cols=i:=by rw[mul_comm];exact div_add_mod _ _
   rw[e,getD_eq_getElem?_getD,getD_eq_getElem?_getD,getElem?_eq_getElem (by lia),getElem?_eq_getElem (by rw[O, <-hr, <-hc];exact hi)] at q;rw[getElem?_eq_getElem (by lia),getElem?_eq_getElem (by rw[O, <-hr, <-hc];exact hi)];exact congrArg some q
  ·rw[getElem?_eq_none (by lia),getElem?_eq_none (by rw[O, <-hr, <-hc];lia)]
 rw[ex,ey,e]
theorem Qj {A:Arith}{p r c:Nat}{f:Nat->Nat->Int}{M:Mat}(h:made A p r c f=.ok M){i j:Nat}(hi:i<r)(hj:j<c):A.word (f i j)=some (M.at_ i j):=by
 rw[cZ.tu] at h;cases e:allOf (λk=>A.word (f (k/c) (k%c))) (range (r*c)) with
 |none=>rw[e] at h;cases h
 |some l=>
  rw[e] at h;injection h with h;subst h
  have O:i*c+j<r*c:=by
   have:(i+1)*c<=r*c:=mul_le_mul_right _ hi;rw[succ_mul] at this;lia
  have q:=cZ.sZ e (i:=i*c+j) (a:=i*c+j) (getElem?_range O);have hl:=cZ.fZ e;rw[length_range] at hl;rw[cZ.vP _ _ _ hi hj,getD_eq_getElem?_getD];rw[getElem?_eq_getElem (by lia)] at q⊢;have e1:(i*c+j)/c=i:=by
   rw[mul_comm i c,Nat.mul_add_div (by lia),Nat.div_eq_of_lt hj];rfl
  have e2:(i*c+j)%c=j:=by
   rw[mul_comm i c,Nat.mul_add_mod,mod_eq_of_lt hj]
  rw[e1,e2] at q;exact q
theorem Zw {a m:Nat}{A:Arith}(hA:arith a m=some A)(h2:a≠2)(p r c:Nat)(f:Nat->Nat->Int):∃M,∀p,made A p r c f=.ok M:=by
 have key:∀l:List Nat,∃r,allOf (λk=>A.word (f (k/c) (k%c))) l=some r:=λl=>by
  induction l with
  |nil=>exact⟨[],rfl⟩
  |cons k l ih=>
   obtain⟨r,hr⟩:=ih;obtain⟨w,hw⟩:=fits hA h2 (f (k/c) (k%c));exact⟨w::r,by rw[cZ.d7,hw,hr];rfl⟩
 obtain⟨l,hl⟩:=key (range (r*c));exact⟨⟨r,c,rowsOf c r l⟩,λp=>by rw[cZ.tu,hl]⟩
structure Sq (A:Arith)(n:Nat)(x:Mat):Prop where
 r:x.rows=n
 c:x.cols=n
 wf:Vl.WF A x
def mul (A:Arith)(x y:Mat):Mat:=match product A 0 x y with
 | .ok z=>z
 | .error _=>noMat
def unit (A:Arith)(n:Nat):Mat:=match made A 0 n n (unitAt A) with
 | .ok z=>z
 | .error _=>noMat
section
variable {a m:Nat}{A:Arith}(hA:arith a m=some A)(h2:a≠2)
include hA h2
theorem m8 (p:Nat)(x y:Mat):product A p x y=.ok (mul A x y):=by
 obtain⟨M,hM⟩:=Zw hA h2 p x.rows y.cols (cross A x y);unfold mul product;rw[hM p,hM 0]
theorem tE (p n:Nat):made A p n n (unitAt A)=.ok (unit A n):=by
 obtain⟨M,hM⟩:=Zw hA h2 p n n (unitAt A);unfold unit;rw[hM p,hM 0]
theorem j6 {n:Nat}{x y:Mat}(hx:Sq A n x)(hy:Sq A n y):Sq A n (mul A x y):=by
 obtain⟨e1,e2,e3⟩:=Vl.vm hA hx.wf hy.wf (by rw[hx.c,hy.r]) (m8 hA h2 0 x y);exact⟨by rw[e1,hx.r],by rw[e2,hy.c],e3⟩
theorem Ju {n:Nat}(h1:1<=n)(qL:n<=16):Sq A n (unit A n):=by
 obtain⟨e1,e2,e3⟩:=Vl.Ab hA h1 qL (tE hA h2 0 n);exact⟨e1,e2,e3⟩
theorem cross_S {n:Nat}{x y:Mat}(hx:Sq A n x)(i j:Nat):cross A x y i j=S A.plus A.none_ n λl=>A.times (x.mean A i l) (y.mean A l j):=by
 unfold cross;rw[hx.c,Zt hA]
theorem Ae {n:Nat}{x y:Mat}(hx:Sq A n x)(hy:Sq A n y){i j:Nat}(hi:i<n)(hj:j<n):RW A (S A.plus A.none_ n λl=>A.times (x.mean A i l) (y.mean A l j)) ((mul A x y).mean A i j):=by
 rw[<-cross_S hA h2 hx];have h:=Qj (m8 hA h2 0 x y) (i:=i) (j:=j) (by rw[hx.r];exact hi) (by rw[hy.c];exact hj);have s:=j6 hA h2 hx hy;have w:=s.wf.at_ (i:=i) (j:=j) (by rw[s.r];exact hi) (by rw[s.c];exact hj);exact h.trans (pA hA w.1 w.2).symm
theorem Zx {n:Nat}(h1:1<=n)(qL:n<=16){i j:Nat}(hi:i<n)(hj:j<n):RW A (unitAt A i j) ((unit A n).mean A i j):=by
 have h:=Qj (tE hA h2 0 n) hi hj;have s:=Ju hA h2 h1 qL;have w:=s.wf.at_ (i:=i) (j:=j) (by rw[s.r];exact hi) (by rw[s.c];exact hj);exact h.trans (pA hA w.1 w.2).symm
theorem Sq.d {n:Nat}{x:Mat}(hx:Sq A n x){i j:Nat}(hi:i<n)(hj:j<n):Ar.Dom a (x.mean A i j):=hx.wf.dom hA (by rw[hx.r];exact hi) (by rw[hx.c];exact hj)
theorem V4 {n:Nat}{x y:Mat}(hx:Sq A n x)(hy:Sq A n y)(h:∀i j,i<n->j<n->RW A (x.mean A i j) (y.mean A i j)):x=y:=by
 refine mat_ext hx.wf hy.wf (by rw[hx.r,hy.r]) (by rw[hx.c,hy.c]) λi j hi hj=>?_;rw[hx.r] at hi;rw[hx.c] at hj;have w1:=hx.wf.at_ (i:=i) (j:=j) (by rw[hx.r];exact hi) (by rw[hx.c];exact hj);have w2:=hy.wf.at_ (i:=i) (j:=j) (by rw[hy.r];exact hi) (by rw[hy.c];exact hj);have e:=h i j hi hj;have e:A.word (A.mean (x.at_ i j))=A.word (A.mean (y.at_ i j)):=e;rw[pA hA w1.1 w1.2,pA hA w2.1 w2.2] at e;exact Option.some.inj e
theorem mul_assoc {n:Nat}{x y z:Mat}(hx:Sq A n x)(hy:Sq A n y)(hz:Sq A n z):mul A (mul A x y) z=mul A x (mul A y z):=by
 have L:=laws hA h2;have hxy:=j6 hA h2 hx hy;have hyz:=j6 hA h2 hy hz;refine V4 hA h2 (j6 hA h2 hxy hz) (j6 hA h2 hx hyz) λi j hi hj=>?_;have sd:∀{x y:Mat},Sq A n x->Sq A n y->∀{i j},i<n->j<n->Ar.Dom a (S A.plus A.none_ n λl=>A.times (x.mean A i l) (y.mean A l j)):=λ{x y} hx hy {i j} hi hj=>fW L λl hl=>L.dt (Sq.d hA h2 hx hi hl) (Sq.d hA h2 hy hl hj);refine L.trans (L.symm (Ae hA h2 hxy hz hi hj)) (L.trans ?_ (Ae hA h2 hx hyz hi hj));refine L.trans (dh L (g:=λl=>A.times (S A.plus A.none_ n λk=>A.times (x.mean A i k) (y.mean A k l)) (z.mean A l j)) (λl hl=>L.dt (Sq.d hA h2 hxy hi hl) (Sq.d hA h2 hz hl hj)) (λl hl=>L.dt (sd hx hy hi hl) (Sq.d hA h2 hz hl hj)) λl hl=>
  L.ct (Sq.d hA h2 hxy hi hl) (sd hx hy hi hl) (Sq.d hA h2 hz hl hj) (Sq.d hA h2 hz hl hj) (L.symm (Ae hA h2 hx hy hi hl)) (L.refl _)) ?_
 refine L.trans (Pw.assoc L (f:=x.mean A) (g:=y.mean A) (h:=z.mean A) (i:=i) (j:=j) (λk O=>Sq.d hA h2 hx hi O) (λk l O hl=>Sq.d hA h2 hy O hl) λl hl=>Sq.d hA h2 hz hl hj) ?_;exact dh L (λk O=>L.dt (Sq.d hA h2 hx hi O) (sd hy hz O hj)) (λk O=>L.dt (Sq.d hA h2 hx hi O) (Sq.d hA h2 hyz O hj)) λk O=>
  L.ct (Sq.d hA h2 hx hi O) (Sq.d hA h2 hx hi O) (sd hy hz O hj) (Sq.d hA h2 hyz O hj) (L.refl _) (Ae hA h2 hy hz O hj)
theorem V5 {n:Nat}{x:Mat}(hx:Sq A n x):mul A (unit A n) x=x:=by
 have L:=laws hA h2;have h1:1<=n:=by have:=hx.wf.r1;rw[hx.r] at this;exact this
 have qL:n<=16:=by have:=hx.wf.r2;rw[hx.r] at this;exact this
 have hu:=Ju hA h2 (A:=A) h1 qL;refine V4 hA h2 (j6 hA h2 hu hx) hx λi j hi hj=>?_;refine L.trans (L.symm (Ae hA h2 hu hx hi hj)) ?_;refine L.trans (dh L (g:=λl=>if l=i then x.mean A i j else A.none_) (λl hl=>L.dt (Sq.d hA h2 hu hi hl) (Sq.d hA h2 hx hl hj)) (λl hl=>?_) λl hl=>?_) (Le L (Sq.d hA h2 hx hi hj) hi)
 ·show Ar.Dom a (if l=i then x.mean A i j else A.none_);split
  ·exact Sq.d hA h2 hx hi hj
  ·exact L.Kv
 ·refine L.trans (L.ct (Sq.d hA h2 hu hi hl) (Vl.oG hA i l) (Sq.d hA h2 hx hl hj) (Sq.d hA h2 hx hl hj) (L.symm (Zx hA h2 h1 qL hi hl)) (L.refl _)) ?_;show RW A (A.times (if i=l then A.one else A.none_) _) (if l=i then x.mean A i j else A.none_);by_cases e:l=i
  ·subst e;rw[if_pos rfl,if_pos rfl];exact L.ol (Sq.d hA h2 hx hl hj)
  ·rw[if_neg e,if_neg (Ne.symm e)];exact L.nl (Sq.d hA h2 hx hl hj)
theorem V6 {n:Nat}{x:Mat}(hx:Sq A n x):mul A x (unit A n)=x:=by
 have L:=laws hA h2;have h1:1<=n:=by have:=hx.wf.r1;rw[hx.r] at this;exact this
 have qL:n<=16:=by have:=hx.wf.r2;rw[hx.r] at this;exact this
 have hu:=Ju hA h2 (A:=A) h1 qL;refine V4 hA h2 (j6 hA h2 hx hu) hx λi j hi hj=>?_;refine L.trans (L.symm (Ae hA h2 hx hu hi hj)) ?_;refine L.trans (dh L (g:=λl=>if l=j then x.mean A i j else A.none_) (λl hl=>L.dt (Sq.d hA h2 hx hi hl) (Sq.d hA h2 hu hl hj)) (λl hl=>?_) λl hl=>?_) (Le L (Sq.d hA h2 hx hi hj) hj)
 ·show Ar.Dom a (if l=j then x.mean A i j else A.none_);split
  ·exact Sq.d hA h2 hx hi hj
  ·exact L.Kv
 ·refine L.trans (L.ct (Sq.d hA h2 hx hi hl) (Sq.d hA h2 hx hi hl) (Sq.d hA h2 hu hl hj) (Vl.oG hA l j) (L.refl _) (L.symm (Zx hA h2 h1 qL hl hj))) ?_;show RW A (A.times _ (if l=j then A.one else A.none_)) (if l=j then x.mean A i j else A.none_);by_cases e:l=j
  ·subst e;rw[if_pos rfl,if_pos rfl];exact L.or_ (Sq.d hA h2 hx hi hl)
  ·rw[if_neg e,if_neg e];exact L.nr (Sq.d hA h2 hx hi hl)
end
noncomputable def pow (A:Arith)(n:Nat)(x:Mat):Nat->Mat
 |0=>unit A n
 |e+1=>mul A (pow A n x e) x
section
variable {a m:Nat}{A:Arith}(hA:arith a m=some A)(h2:a≠2){n:Nat}
include hA h2
theorem bds {x:Mat}(hx:Sq A n x):1<=n/\n<=16:=⟨by have:=hx.wf.r1;rw[hx.r] at this;exact this,by have:=hx.wf.r2;rw[hx.r] at this;exact this⟩
theorem Gy {x:Mat}(hx:Sq A n x):∀e,Sq A n (pow A n x e)
 |0=>Ju hA h2 (bds hA h2 hx).1 (bds hA h2 hx).2
 |e+1=>j6 hA h2 (Gy hx e) hx
theorem NT {x:Mat}(hx:Sq A n x)(p:Nat):∀e,raised A p x e=.ok (pow A n x e)
 |0=>by rw[raised,hx.r];exact tE hA h2 p n
 |e+1=>by rw[raised,NT hx p e];exact m8 hA h2 p _ x
theorem pow_left {x:Mat}(hx:Sq A n x):∀e,pow A n x (e+1)=mul A x (pow A n x e)
 |0=>by show mul A (unit A n) x=mul A x (unit A n);rw[V5 hA h2 hx,V6 hA h2 hx]
 |e+1=>by
  show mul A (pow A n x (e+1)) x=mul A x (mul A (pow A n x e) x);rw[pow_left hx e,mul_assoc hA h2 hx (Gy hA h2 hx e) hx]
theorem Cv {x:Mat}(hx:Sq A n x):∀k,pow A n x (2*k)=pow A n (mul A x x) k
 |0=>rfl
 |k+1=>by
  show mul A (mul A (pow A n x (2*k)) x) x=mul A (pow A n (mul A x x) k) (mul A x x);rw[mul_assoc hA h2 (Gy hA h2 hx _) hx hx,Cv hx k]
theorem pow_odd {x:Mat}(hx:Sq A n x)(k:Nat):pow A n x (2*k+1)=mul A x (pow A n (mul A x x) k):=by
 rw[pow_left hA h2 hx,Cv hA h2 hx]
end
end Pw
namespace Dt
open GridTalk
structure CR (α:Type) where
 add:α->α->α
 mul:α->α->α
 neg:α->α
 zero:α
 one:α
 aa:∀x y z,add (add x y) z=add x (add y z)
 ac:∀x y,add x y=add y x
 za:∀x,add zero x=x
 ma:∀x y z,mul (mul x y) z=mul x (mul y z)
 mc:∀x y,mul x y=mul y x
 md:∀x y z,mul x (add y z)=add (mul x y) (mul x z)
 zm:∀x,mul zero x=zero
 na:∀x y,neg (add x y)=add (neg x) (neg y)
 nz:neg zero=zero
 nn:∀x,neg (neg x)=x
 nm:∀x y,mul x (neg y)=neg (mul x y)
 om:∀x,mul one x=x
section
variable {α:Type}(C:CR α)
noncomputable def S:Nat->(Nat->α)->α
 |0,_=>C.zero
 |n+1,f=>C.add (S n f) (f n)
noncomputable def sg (k:Nat)(x:α):α:=if k%2=0 then x else C.neg x
theorem sg_add (k:Nat)(x y:α):sg C k (C.add x y)=C.add (sg C k x) (sg C k y):=by
 unfold sg;split
 ·rfl
 ·rw[C.na]
theorem sg_zero (k:Nat):sg C k C.zero=C.zero:=by
 unfold sg;split
 ·rfl
 ·rw[C.nz]
theorem sg_mul (k:Nat)(x y:α):C.mul x (sg C k y)=sg C k (C.mul x y):=by
 unfold sg;split
 ·rfl
 ·rw[C.nm]
theorem sg_mulR (k:Nat)(x y:α):C.mul (sg C k x) y=sg C k (C.mul x y):=by
 rw[C.mc,sg_mul,C.mc]
theorem sg_sg (k l:Nat)(x:α):sg C k (sg C l x)=sg C (k+l) x:=by
 unfold sg;rcases Nat.mod_two_eq_zero_or_one k with h|h<;>rcases Nat.mod_two_eq_zero_or_one l with g|g
 ·rw[if_pos h,if_pos g,if_pos (by lia)]
 ·rw[if_pos h,if_neg (by lia),if_neg (by lia)]
 ·rw[if_neg (by lia),if_pos g,if_neg (by lia)]
 ·rw[if_neg (by lia),if_neg (by lia),if_pos (by lia),C.nn]
theorem sg_par {k l:Nat}(h:k%2=l%2)(x:α):sg C k x=sg C l x:=by
 unfold sg;rw[h]
theorem dh:∀{n:Nat}{f g:Nat->α},(∀i,i<n->f i=g i)->S C n f=S C n g
 |0,_,_,_=>rfl
 |n+1,f,g,h=>by
  show C.add (S C n f) (f n)=C.add (S C n g) (g n);rw[dh λi hi=>h i (by lia),h n (by lia)]
theorem S_sg (k:Nat):∀(n:Nat) (f:Nat->α),sg C k (S C n f)=S C n λi=>sg C k (f i)
 |0,f=>sg_zero C k
 |n+1,f=>by
  show sg C k (C.add (S C n f) (f n))=C.add _ _;rw[sg_add,S_sg k n f]
theorem S_mul (c:α):∀(n:Nat) (f:Nat->α),C.mul c (S C n f)=S C n λi=>C.mul c (f i)
 |0,f=>by show C.mul c C.zero=C.zero;rw[C.mc,C.zm]
 |n+1,f=>by
  show C.mul c (C.add (S C n f) (f n))=C.add _ _;rw[C.md,S_mul c n f]
theorem NQ (c:α)(n:Nat)(f:Nat->α):C.mul (S C n f) c=S C n λi=>C.mul (f i) c:=by
 rw[C.mc,S_mul];exact dh C λi z=>C.mc _ _
theorem S_zero:∀n,S C n (λz=>C.zero)=C.zero
 |0=>rfl
 |n+1=>by show C.add (S C n λz=>C.zero) C.zero=C.zero;rw[S_zero n,C.za]
theorem swap4 (x y z w:α):C.add (C.add x y) (C.add z w)=C.add (C.add x z) (C.add y w):=by
 rw[C.aa,C.aa, <-C.aa y z w,C.ac y z,C.aa z y w]
theorem S_plus:∀(n:Nat) (f g:Nat->α),S C n (λi=>C.add (f i) (g i))=C.add (S C n f) (S C n g)
 |0,_,_=>(C.za _).symm
 |n+1,f,g=>by
  show C.add (S C n _) (C.add (f n) (g n))=C.add (C.add (S C n f) (f n)) (C.add (S C n g) (g n));rw[S_plus n f g,swap4]
theorem Gw (k:Nat):∀(n:Nat) (f:Nat->Nat->α),S C n (λi=>S C k λj=>f i j)=S C k λj=>S C n λi=>f i j
 |0,f=>(S_zero C k).symm
 |n+1,f=>by
  show C.add (S C n λi=>S C k λj=>f i j) (S C k λj=>f n j)=_;rw[Gw k n f, <-S_plus];rfl
def skip (j k:Nat):Nat:=if k<j then k else k+1
def pre (j a:Nat):Nat:=if a<j then a else a-1
theorem V7 (g:Nat->α):∀(n j:Nat),j<n+1->S C n (λi=>g (skip j i))=S C (n+1) λa=>if a=j then C.zero else g a
 |0,j,h=>by
  obtain rfl:j=0:=by lia
  show C.zero=C.add C.zero (if 0=0 then C.zero else g 0);rw[if_pos rfl,C.za]
 |n+1,j,h=>by
  by_cases e:j=n+1
  ·subst e;show S C (n+1) _=C.add (S C (n+1) _) (if n+1=n+1 then C.zero else g (n+1));rw[if_pos rfl,C.ac,C.za];refine dh C λi hi=>?_;show g (skip (n+1) i)=if i=n+1 then C.zero else g i;rw[if_neg (by lia)];unfold skip;rw[if_pos hi]
  ·have ih:=V7 g n j (by lia);show C.add (S C n λi=>g (skip j i)) (g (skip j n))=C.add (S C (n+1) _) (if n+1=j then C.zero else g (n+1));rw[ih,if_neg (Ne.symm e)];have:skip j n=n+1:=by unfold skip;rw[if_neg (by lia)]
   rw[this]
noncomputable def Fd:Nat->(Nat->Nat->α)->α
 |0,_=>C.one
 |n+1,f=>S C (n+1) λj=>sg C j (C.mul (f 0 j) (Fd n λi k=>f (i+1) (skip j k)))
noncomputable def Ld:Nat->(Nat->Nat->α)->α
 |0,_=>C.one
 |n+1,f=>S C (n+1) λj=>sg C (n-j) (C.mul (Ld n λi k=>f i (skip j k)) (f n j))
theorem V8:∀{n:Nat}{f g:Nat->Nat->α},(∀i j,i<n->j<n->f i j=g i j)->Ld C n f=Ld C n g
 |0,_,_,_=>rfl
 |n+1,f,g,h=>by
  refine dh C λj hj=>?_;show sg C (n-j) (C.mul (Ld C n λi k=>f i (skip j k)) (f n j))=sg C (n-j) (C.mul (Ld C n λi k=>g i (skip j k)) (g n j));rw[h n j (by lia) hj,V8 (f:=λi k=>f i (skip j k)) (g:=λi k=>g i (skip j k)) λi k hi O=>h i _ (by lia) (by unfold skip;split<;>lia)]
theorem vp:∀(n:Nat) (f:Nat->Nat->α),Fd C n f=Ld C n f
 |0,_=>rfl
 |1,f=>by
  show C.add C.zero (sg C 0 (C.mul (f 0 0) C.one))=C.add C.zero (sg C (0-0) (C.mul C.one (f 0 0)));rw[C.mc]
 |n+2,f=>by
  let T:Nat->Nat->α:=λj a=>sg C (j+(n-pre j a)) (C.mul (f 0 j) (C.mul (Ld C n λr k=>f (r+1) (skip j (skip (pre j a) k))) (f (n+1) a)))
  have h1:Fd C (n+2) f=S C (n+2) λj=>S C (n+1) λi=>T j (skip j i):=by
   refine dh C λj hj=>?_;show sg C j (C.mul (f 0 j) (Fd C (n+1) λi k=>f (i+1) (skip j k)))=_;rw[vp (n+1),Ld,S_mul,S_sg];refine dh C λi hi=>?_;have ep:pre j (skip j i)=i:=by unfold pre skip;by_cases q:i<j<;>simp only[q,if_true,if_false]<;>(try split)<;>lia
   show sg C j (C.mul (f 0 j) (sg C (n-i) (C.mul (Ld C n λr k=>f (r+1) (skip j (skip i k))) (f (n+1) (skip j i)))))=sg C (j+(n-pre j (skip j i))) _;rw[sg_mul,sg_sg,ep]
  have h2:Ld C (n+2) f=S C (n+2) λa=>S C (n+1) λb=>T (skip a b) a:=by
   refine dh C λa ha=>?_;show sg C (n+1-a) (C.mul (Ld C (n+1) λi k=>f i (skip a k)) (f (n+1) a))=_;rw[<-vp (n+1),Fd,NQ,S_sg];refine dh C λb hb=>?_;show sg C (n+1-a) (C.mul (sg C b (C.mul (f 0 (skip a b)) (Fd C n λi k=>f (i+1) (skip a (skip b k))))) (f (n+1) a))=sg C (skip a b+(n-pre (skip a b) a)) _;rw[sg_mulR,sg_sg,vp n,C.ma];have e:(λ(i k:Nat)=>f (i+1) (skip a (skip b k)))=λr k=>f (r+1) (skip (skip a b) (skip (pre (skip a b) a) k)):=by
    funext i k
    congr 1
    unfold skip pre;by_cases h:b<a<;>by_cases g:k<b<;>simp only[h,g,if_pos,if_neg,not_false_eq_true]<;>grind
   rw[e];refine sg_par C ?_ _;unfold skip pre;by_cases h:b<a<;>simp only[h,if_pos,if_neg,not_false_eq_true]<;>grind
  rw[h1,h2];have h3:(S C (n+2) λj=>S C (n+1) λi=>T j (skip j i))=S C (n+2) λj=>S C (n+2) λa=>if a=j then C.zero else T j a:=
   dh C λj hj=>V7 C (T j) (n+1) j hj
  have h4:(S C (n+2) λa=>S C (n+1) λb=>T (skip a b) a)=S C (n+2) λa=>S C (n+2) λj=>if j=a then C.zero else T j a:=
   dh C λa ha=>V7 C (λj=>T j a) (n+1) a ha
  rw[h3,h4,Gw];refine dh C λa z=>dh C λj z=>?_;by_cases e:a=j
  ·rw[if_pos e,if_pos e.symm]
  ·rw[if_neg e,if_neg (Ne.symm e)]
noncomputable def Lc (f:Nat->Nat->α)(cs:List Nat):α:=Ld C cs.length λi j=>f i (cs.getD j 0)
theorem erase_getD (cs:List Nat)(j k:Nat):(cs.eraseIdx j).getD k 0=cs.getD (skip j k) 0:=by
 rw[getD_eq_getElem?_getD,getD_eq_getElem?_getD,List.getElem?_eraseIdx];unfold skip;split<;>rfl
theorem Lc_step (f:Nat->Nat->α)(cs:List Nat){k:Nat}(O:cs.length=k+1):Lc C f cs=S C (k+1) λj=>sg C (k-j) (C.mul (Lc C f (cs.eraseIdx j)) (f k (cs.getD j 0))):=by
 unfold Lc;rw[O];refine dh C λj hj=>?_;have hl:(cs.eraseIdx j).length=k:=by rw[List.length_eraseIdx_of_lt (by lia),O];rfl
 rw[hl]
 congr 2
 refine congrArg (Ld C k) ?_;funext i t;rw[erase_getD]
noncomputable def mem (s:Nat):List Nat:=(range 6).filter λc=>s.testBit c
noncomputable def above (s c:Nat):Nat:=((mem s).filter λo=>decide (c<o)).length
theorem mem_erase:∀s,s<64->∀j,j<(mem s).length->(mem s).eraseIdx j=mem (s ^^^ (1<<<(mem s).getD j 0))/\above s ((mem s).getD j 0)=(mem s).length-1-j/\s ^^^ (1<<<(mem s).getD j 0)<s:=by decide+kernel
theorem Lc_set (f:Nat->Nat->α){s k:Nat}(hs:s<64)(O:(mem s).length=k+1):Lc C f (mem s)=S C (k+1) λj=>sg C (above s ((mem s).getD j 0)) (C.mul (Lc C f (mem (s ^^^ (1<<<(mem s).getD j 0)))) (f k ((mem s).getD j 0))):=by
 rw[Lc_step C f _ O];refine dh C λj hj=>?_;obtain⟨e1,e2,_⟩:=mem_erase s hs j (by lia);rw[e1,e2,O];rfl
theorem S_list (g:Nat->α):∀(l:List Nat),(S C l.length λj=>g (l.getD j 0))=l.foldl (λz c=>C.add z (g c)) C.zero:=by
 intro l;have key:∀n,n<=l.length->(S C n λj=>g (l.getD j 0))=(l.take n).foldl (λz c=>C.add z (g c)) C.zero:=by
  intro n
  induction n with
  |zero=>intro _;rfl
  |succ n ih=>
   intro h;show C.add (S C n λj=>g (l.getD j 0)) (g (l.getD n 0))=_;rw[ih (by lia),List.take_add_one,getElem?_eq_getElem (by lia),foldl_append];have:l.getD n 0=l[n]:=by rw[getD_eq_getElem?_getD,getElem?_eq_getElem (by lia)];rfl
   rw[this];rfl
 have:=key l.length (Nat.le_refl _);rw[take_length] at this;exact this
theorem split_sg (p:Nat->Nat)(g:Nat->α):∀(l:List Nat),l.foldl (λz c=>C.add z (sg C (p c) (g c))) C.zero=
  C.add (((l.filter λc=>p c%2 == 0).map g).foldl C.add C.zero) (C.neg (((l.filter λc=> !(p c%2 == 0)).map g).foldl C.add C.zero)):=by
 intro l;have fold1:∀(l:List α) (z:α),l.foldl C.add z=C.add z (l.foldl C.add C.zero):=by
  intro l
  induction l with
  |nil=>intro z;show z=C.add z C.zero;rw[C.ac,C.za]
  |cons x l ih=>intro z;rw[foldl_cons,foldl_cons,ih,ih (C.add C.zero x),C.za,C.aa]
 have fold2:∀(l:List Nat) (z:α),l.foldl (λz c=>C.add z (sg C (p c) (g c))) z=C.add z (l.foldl (λz c=>C.add z (sg C (p c) (g c))) C.zero):=by
  intro l
  induction l with
  |nil=>intro z;show z=C.add z C.zero;rw[C.ac,C.za]
  |cons x l ih=>intro z;rw[foldl_cons,foldl_cons,ih,ih (C.add C.zero _),C.za,C.aa]
 induction l with
 |nil=>show C.zero=C.add C.zero (C.neg C.zero);rw[C.nz,C.za]
 |cons c l ih=>
  rw[foldl_cons,fold2,C.za,ih];unfold sg;by_cases h:p c%2=0
  ·rw[if_pos h,List.filter_cons_of_pos (by simp[h]),List.filter_cons_of_neg (by simp[h]),map_cons,foldl_cons,C.za,fold1 _ (g c),C.aa]
  ·rw[if_neg h,List.filter_cons_of_neg (by simp[h]),List.filter_cons_of_pos (by simp[h]),map_cons,foldl_cons,C.za,fold1 _ (g c),C.na];rw[<-C.aa, <-C.aa,C.ac (C.neg (g c))]
end
structure Md (A:Arith)(D:Int->Prop)(α:Type)(C:CR α) where
 φ:α->Int
 plus:∀x y,A.plus (φ x) (φ y)=φ (C.add x y)
 times:∀x y,A.times (φ x) (φ y)=φ (C.mul x y)
 less:∀x y,A.less (φ x) (φ y)=φ (C.add x (C.neg y))
 none:A.none_=φ C.zero
 one:A.one=φ C.one
 onto:∀x,D x->∃y,φ y=x
noncomputable def cInt:CR Int:=⟨λx y=>x+y,λx y=>x*y,λx=> -x,0,1,add_assoc,Int.add_comm,Int.zero_add,Int.mul_assoc,Int.mul_comm,Int.mul_add,Int.zero_mul,λx y=>Int.neg_add,Int.neg_zero,Int.neg_neg,λx y=>Int.mul_neg x y,Int.one_mul⟩
abbrev B:=BitVec 64
noncomputable def cAnd:CR B:=⟨λx y=>x ^^^ y,λx y=>x&&& y,λx=>x,0#64,BitVec.allOnes 64,BitVec.xor_assoc,xor_comm,λx=>zero_xor,BitVec.and_assoc,BitVec.and_comm,λx y z=>by
 apply eq_of_getLsbD_eq;intro i hi;simp;cases x.getLsbD i<;>simp,λx=>BitVec.zero_and,λw w=>rfl,rfl,λw=>rfl,λw w=>rfl,λx=>BitVec.allOnes_and⟩
noncomputable def cFld (m:B):CR B:=⟨λx y=>x ^^^ y,λx y=>Poly.G m 64 x y,λx=>x,0#64,1#64,BitVec.xor_assoc,xor_comm,λx=>zero_xor,Poly.Zo m,Poly.Nv m,λx y z=>Poly.Zn m 64 x y z,λx=>Poly.wz m 64 x,λw w=>rfl,rfl,λw=>rfl,λw w=>rfl,λx=>Poly.UG m x⟩
theorem model {a m:Nat}{A:Arith}(hA:arith a m=some A)(hm:A.minus.isSome=true):∃(α:Type) (C:CR α),Nonempty (Md A (Ar.Dom a) α C):=by
 have onto:∀{a:Nat},4<=a->∀x,Ar.Dom a x->∃y:B,((y.toNat:Nat):Int)=x:=λ{a} h4 x hx=>by
  rw[Ar.fO h4] at hx;refine⟨BitVec.ofNat 64 x.toNat,?_⟩;rw[toNat_ofNat];lia
 rcases Ar.cV hA with⟨rfl,rfl,rfl⟩|⟨rfl,m1,m2,rfl⟩|⟨rfl,rfl,rfl⟩|⟨rfl,rfl,rfl⟩|⟨rfl,rfl,rfl⟩|⟨rfl,rfl,rfl⟩|⟨rfl,rfl,rfl⟩|⟨rfl,m2,rfl⟩
 ·exact⟨Int,cInt,⟨id,λz z=>rfl,λz z=>rfl,λx y=>Int.sub_eq_add_neg,rfl,rfl,λx z=>⟨x,rfl⟩⟩⟩
 ·exact⟨Int,cInt,⟨id,λz z=>rfl,λz z=>rfl,λx y=>Int.sub_eq_add_neg,rfl,rfl,λx z=>⟨x,rfl⟩⟩⟩
 ·exact⟨Int,cInt,⟨id,λz z=>rfl,λz z=>rfl,λx y=>Int.sub_eq_add_neg,rfl,rfl,λx z=>⟨x,rfl⟩⟩⟩
 ·cases hm
 ·cases hm
 ·cases hm
 ·refine⟨B,cAnd,⟨λx=>((x.toNat:Nat):Int),λx y=>?_,λx y=>?_,λx y=>?_,rfl,?_,onto (by lia)⟩⟩
  ·show bits xor _ _=_;unfold bits;rw[toNat_natCast,toNat_natCast];show _=(((x ^^^ y).toNat:Nat):Int);rw[toNat_xor];rfl
  ·show bits land _ _=_;unfold bits;rw[toNat_natCast,toNat_natCast];show _=(((x&&& y).toNat:Nat):Int);rw[BitVec.toNat_and];rfl
  ·show bits xor _ _=_;unfold bits;rw[toNat_natCast,toNat_natCast];show _=(((x ^^^ y).toNat:Nat):Int);rw[toNat_xor];rfl
  ·decide
 ·refine⟨B,cFld (BitVec.ofNat 64 m),⟨λx=>((x.toNat:Nat):Int),λx y=>?_,λx y=>?_,λx y=>?_,rfl,rfl,onto (by lia)⟩⟩
  ·show bits xor _ _=_;unfold bits;rw[toNat_natCast,toNat_natCast];show _=(((x ^^^ y).toNat:Nat):Int);rw[toNat_xor];rfl
  ·show bits (fieldTimes m) _ _=_;unfold bits;rw[toNat_natCast,toNat_natCast,Poly.fY,Poly.ofN,Poly.ofN];rfl
  ·show bits xor _ _=_;unfold bits;rw[toNat_natCast,toNat_natCast];show _=(((x ^^^ y).toNat:Nat):Int);rw[toNat_xor];rfl
section
variable {A:Arith}{D:Int->Prop}{α:Type}{C:CR α}(M:Md A D α C)
theorem det_Fd:∀(n:Nat) (g:Nat->Nat->α) (f:Nat->Nat->Int),(∀i j,i<n->j<n->f i j=M.φ (g i j))->det A n f=M.φ (Fd C n g)
 |0,_,_,_=>M.one
 |n+1,g,f,h=>by
  rw[det];have key:∀k,k<=n+1->(range k).foldl (λ(z:Int) (j:Nat)=>
    let t:Int:=A.times (f 0 j) (det A n λ(i k:Nat)=>f (i+1) (if k<j then k else k+1))
    if j%2=0 then A.plus z t else A.less z t) A.none_=M.φ (S C k λj=>sg C j (C.mul (g 0 j) (Fd C n λi k=>g (i+1) (skip j k)))):=by
   intro k
   induction k with
   |zero=>intro _;exact M.none
   |succ k ih=>
    intro O;rw[range_succ,foldl_append,ih (by lia)];show(if k%2=0 then A.plus _ _ else A.less _ _)=M.φ (C.add _ (sg C k _));rw[det_Fd n (λi t=>g (i+1) (skip k t)) (λ(i t:Nat)=>f (i+1) (if t<k then t else t+1)) (λi t hi ht=>h _ _ (by lia) (by split<;>lia)),h 0 k (by lia) (by lia),M.times];unfold sg;split
    ·rw[M.plus]
    ·rw[M.less]
  exact key (n+1) (Nat.le_refl _)
theorem total_φ (hA:∃a m,arith a m=some A)(l:List α):A.total (l.map M.φ)=M.φ (l.foldl C.add C.zero):=by
 obtain⟨a,m,hA⟩:=hA;rw[Ar.pR hA,M.none];have key:∀(l:List α) (z:α),(l.map M.φ).foldl A.plus (M.φ z)=M.φ (l.foldl C.add z):=by
  intro l
  induction l with
  |nil=>intro z;rfl
  |cons x l ih=>intro z;rw[map_cons,foldl_cons,foldl_cons,M.plus,ih]
 exact key l _
end
noncomputable def parts (A:Arith)(f:Nat->Nat->Int)(d:Nat->Int)(n s:Nat)(even:Bool)(i:Nat):List Int:=
 ((range i).filter λc=>s.testBit c&&((above s c%2 == 0) == even)).map λc=>A.times (d (s ^^^ (1<<<c))) (f ((mem s).length-1) c)
theorem mem_range:∀n,n<=6->∀s,s<2^n->(range n).filter (λc=>s.testBit c)=mem s:=by decide+kernel
theorem mem_full:∀n,n<=6->mem (2^n-1)=range n:=by decide+kernel
theorem Jv:∀s,s<64->0<s->0<(mem s).length:=by decide+kernel
theorem Jw:∀n,n<=6->∀s,s<2^n->(mem s).length<=n:=by decide+kernel
theorem mem_lt:∀n,n<=6->∀s,s<2^n->∀c∈mem s,c<n:=by decide+kernel
theorem mem_xor:∀s,s<64->∀c∈mem s,s ^^^ (1<<<c)<s:=by decide+kernel
theorem dets {a m:Nat}{A:Arith}(hA:arith a m=some A)(hm:A.minus.isSome=true){n:Nat}(hn:n<=6){f:Nat->Nat->Int}(hf:∀i j,i<n->j<n->Ar.Dom a (f i j)):
  ∃d:Nat->Int,d 0=A.one/\d (2^n-1)=det A n f/\(∀s,s<2^n->Ar.Dom a (d s))/\∀s,0<s->s<2^n->A.less (A.total (parts A f d n s true n)) (A.total (parts A f d n s false n))=d s:=by
 obtain⟨α,C,⟨M⟩⟩:=model hA hm;have hex:∀i j,∃y,i<n->j<n->M.φ y=f i j:=λi j=>by
  by_cases h:i<n/\j<n
  ·obtain⟨y,hy⟩:=M.onto _ (hf i j h.1 h.2);exact⟨y,λz z=>hy⟩
  ·exact⟨C.zero,λa b=>absurd ⟨a,b⟩ h⟩
 let g:Nat->Nat->α:=λi j=>Classical.choose (hex i j)
 have hg:∀i j,i<n->j<n->f i j=M.φ (g i j):=λi j hi hj=>(Classical.choose_spec (hex i j) hi hj).symm;have h64:2^n<=64:=Nat.pow_le_pow_right (n:=2) (by lia) hn;have rec_:∀s,0<s->s<2^n->A.less (A.total (parts A f (λs=>M.φ (Lc C g (mem s))) n s true n)) (A.total (parts A f (λs=>M.φ (Lc C g (mem s))) n s false n))=M.φ (Lc C g (mem s)):=by
  intro s h0 hs;obtain⟨k,O⟩:∃k,(mem s).length=k+1:=⟨(mem s).length-1,by have:=Jv s (by lia) h0;lia⟩;have hkn:=Jw n hn s hs;rw[Lc_set C g (by lia) O];have e:=S_list C (λc=>sg C (above s c) (C.mul (Lc C g (mem (s ^^^ (1<<<c)))) (g k c))) (mem s);rw[O] at e;rw[e,split_sg, <-M.less];have V9:∀b:Bool,parts A f (λs=>M.φ (Lc C g (mem s))) n s b n=(((mem s).filter λc=>(above s c%2 == 0) == b).map λc=>C.mul (Lc C g (mem (s ^^^ (1<<<c)))) (g k c)).map M.φ:=by
   intro b;unfold parts;have e1:((range n).filter λc=>s.testBit c&&((above s c%2 == 0) == b))=(mem s).filter λc=>(above s c%2 == 0) == b:=by
    rw[<-mem_range n hn s hs,List.filter_filter]
    congr 1
    funext c;rw[Bool.and_comm]
   rw[e1,map_map];refine map_congr_left λc hc=>?_;have hc:=(mem_filter.mp hc).1;have hcn:=mem_lt n hn s hs c hc;show A.times (M.φ _) (f ((mem s).length-1) c)=M.φ _;rw[O,hg _ c (by lia) hcn,M.times]
  rw[V9 true,V9 false,total_φ M ⟨a,m,hA⟩,total_φ M ⟨a,m,hA⟩];have e2:((mem s).filter λc=>(above s c%2 == 0) == true)=(mem s).filter λc=>above s c%2 == 0:=by congr 1;funext c;simp
  have e3:((mem s).filter λc=>(above s c%2 == 0) == false)=(mem s).filter λc=> !(above s c%2 == 0):=by congr 1;funext c;cases(above s c%2 == 0)<;>rfl
  rw[e2,e3]
 have dom:∀k s,s<k->s<2^n->Ar.Dom a (M.φ (Lc C g (mem s))):=by
  intro k
  induction k with
  |zero=>intro s h;lia
  |succ k ih=>
   intro s O hs;by_cases h0:s=0
   ·subst h0;have:M.φ (Lc C g (mem 0))=A.one:=M.one.symm;rw[this];exact Ar.vO hA
   ·rw[<-rec_ s (by lia) hs];have dp:∀b,Ar.Dom a (A.total (parts A f (λs=>M.φ (Lc C g (mem s))) n s b n)):=λb=>by
     refine Vl.oZ hA _ λx hx=>?_;unfold parts at hx;obtain⟨c,hc,rfl⟩:=mem_map.mp hx;obtain⟨hc1,hc2⟩:=mem_filter.mp hc;have hcn:=List.mem_range.mp hc1;rw[and_eq_true] at hc2;have hcm:c∈mem s:=by
      unfold mem;exact mem_filter.mpr ⟨List.mem_range.mpr (by lia),hc2.1⟩
     have hx:=mem_xor s (by lia) c hcm;have hl:=Jw n hn s hs;have hp:=Jv s (by lia) (by lia);exact Ar.dX hA _ _ (ih _ (by lia) (by lia)) (hf _ _ (by lia) hcn)
    exact Ar.wu hA _ _ (dp true) (dp false)
 refine⟨λs=>M.φ (Lc C g (mem s)),M.one.symm,?_,λs hs=>dom (s+1) s (by lia) hs,rec_⟩;show M.φ (Lc C g (mem (2^n-1)))=det A n f;rw[mem_full n hn,det_Fd M n g f hg,vp];unfold Lc;rw[length_range]
 congr 1
 refine V8 C λi j hi hj=>?_;rw[getD_eq_getElem?_getD,getElem?_range hj]
end Dt
namespace Ln
open GridTalk Poly
noncomputable def pk:Nat->(Nat->Nat)->Nat
 |0,_=>0
 |n+1,f=>f 0+36893488147419103232*pk n (λc=>f (c+1))
theorem iW:∀{n:Nat}{f g:Nat->Nat},(∀c,c<n->f c=g c)->pk n f=pk n g
 |0,_,_,_=>rfl
 |n+1,f,g,h=>by
  show f 0+_*pk n _=g 0+_*pk n _;rw[h 0 (by lia),iW λc hc=>h (c+1) (by lia)]
theorem Wa (k:Nat):∀(n:Nat) (f:Nat->Nat),pk n f*k=pk n λc=>f c*k
 |0,_=>Nat.zero_mul k
 |n+1,f=>by
  show(f 0+36893488147419103232*pk n (λc=>f (c+1)))*k=f 0*k+36893488147419103232*pk n (λc=>f (c+1)*k);rw[Nat.add_mul,Nat.mul_assoc,Wa k n]
theorem tb (a b j:Nat)(h:a<36893488147419103232):(a+36893488147419103232*b).testBit j=if j<65 then a.testBit j else b.testBit (j-65):=by
 have:=Nat.testBit_two_pow_mul_add b (i:=65) (b:=a) h j;rw[Nat.add_comm];exact this
theorem xor65 {a b c d:Nat}(ha:a<36893488147419103232)(hc:c<36893488147419103232):(a+36893488147419103232*b) ^^^ (c+36893488147419103232*d)=(a ^^^ c)+36893488147419103232*(b ^^^ d):=by
 have hx:a ^^^ c<36893488147419103232:=xor_lt_two_pow (n:=65) ha hc;apply Nat.eq_of_testBit_eq;intro j;rw[testBit_xor,tb _ _ _ ha,tb _ _ _ hc,tb _ _ _ hx];split
 ·rw[testBit_xor]
 ·rw[testBit_xor]
theorem Wb:∀{n:Nat}{f g:Nat->Nat},(∀c,c<n->f c<36893488147419103232)->(∀c,c<n->g c<36893488147419103232)->pk n f ^^^ pk n g=pk n λc=>f c ^^^ g c
 |0,_,_,_,_=>by show(0 ^^^ 0:Nat)=0;decide
 |n+1,f,g,hf,hg=>by
  show(f 0+_*pk n _) ^^^ (g 0+_*pk n _)=(f 0 ^^^ g 0)+_*pk n _;rw[xor65 (hf 0 (by lia)) (hg 0 (by lia)),Wb (λc hc=>hf (c+1) (by lia)) λc hc=>hg (c+1) (by lia)]
theorem pk_hi:∀{n:Nat}{f:Nat->Nat},(∀c,c<n->f c<36893488147419103232)->(pk n f/18446744073709551616)&&& pk n (λz=>1)=pk n λc=>f c/18446744073709551616
 |0,_,_=>by show((0/18446744073709551616&&& 0):Nat)=0;decide
 |n+1,f,hf=>by
  have h0:=hf 0 (by lia);have ih:=pk_hi (n:=n) (f:=λc=>f (c+1)) λc hc=>hf (c+1) (by lia);show((f 0+36893488147419103232*pk n λc=>f (c+1))/18446744073709551616)&&& (1+36893488147419103232*pk n (λz=>1))=f 0/18446744073709551616+36893488147419103232*pk n (λc=>f (c+1)/18446744073709551616);rw[<-ih];generalize pk n (λc=>f (c+1))=P;generalize pk n (λz=>1)=F;generalize f 0=v at h0;have e:(v+36893488147419103232*P)/18446744073709551616=(v/18446744073709551616+2*(P%18446744073709551616))+36893488147419103232*(P/18446744073709551616):=by lia
  have l1:v/18446744073709551616+2*(P%18446744073709551616)<36893488147419103232:=by lia
  have l2:v/18446744073709551616<36893488147419103232:=by lia
  rw[e];apply Nat.eq_of_testBit_eq;intro j;rw[Nat.testBit_and,tb _ _ _ l1,tb 1 _ _ (by lia),tb _ _ _ l2];split
  ·by_cases hj:j=0
   ·subst hj;rw[Nat.testBit_zero,Nat.testBit_zero,Nat.testBit_zero];have q:(v/18446744073709551616+2*(P%18446744073709551616))%2=v/18446744073709551616%2:=by lia
    rw[q];simp
   ·have q1:(1:Nat).testBit j=false:=by
     apply Nat.testBit_lt_two_pow;exact Nat.one_lt_two_pow hj
    have q2:(v/18446744073709551616).testBit j=false:=by
     apply Nat.testBit_lt_two_pow;have:2^1<=2^j:=Nat.pow_le_pow_right (by lia) (by lia);lia
    rw[q1,q2];simp
  ·rw[Nat.testBit_and]
theorem pk_get:∀{n:Nat}{f:Nat->Nat}{c:Nat},(∀c,c<n->f c<18446744073709551616)->c<n->(pk n f/2^(65*c))&&& 18446744073709551615=f c
 |0,_,_,_,h=>by lia
 |n+1,f,0,hf,_=>by
  show((f 0+36893488147419103232*pk n _)/2^0)&&& 18446744073709551615=f 0;have:(18446744073709551615:Nat)=2^64-1:=rfl;have h0:=hf 0 (by lia);rw[this,Nat.and_two_pow_sub_one_eq_mod];lia
 |n+1,f,c+1,hf,h=>by
  show((f 0+36893488147419103232*pk n λc=>f (c+1))/2^(65*(c+1)))&&& 18446744073709551615=f (c+1);have h0:=hf 0 (by lia);have e:2^(65*(c+1))=36893488147419103232*2^(65*c):=by
   rw[mul_succ,Nat.pow_add,mul_comm]
  rw[e, <-Nat.div_div_eq_div_mul];have e2:(f 0+36893488147419103232*pk n λc=>f (c+1))/36893488147419103232=pk n λc=>f (c+1):=by lia
  rw[e2];exact pk_get (f:=λc=>f (c+1)) (λc hc=>hf (c+1) (by lia)) (by lia)
theorem UL:∀{n:Nat}{f:Nat->Nat},(∀c,c<n->f c<36893488147419103232)->pk n f<2^(65*n)
 |0,_,_=>by show(0:Nat)<2^(65*0);decide
 |n+1,f,hf=>by
  have h0:=hf 0 (by lia);have ih:=UL (n:=n) (f:=λc=>f (c+1)) λc hc=>hf (c+1) (by lia);show f 0+36893488147419103232*pk n (λc=>f (c+1))<_;have e:2^(65*(n+1))=36893488147419103232*2^(65*n):=by
   rw[mul_succ,Nat.pow_add,mul_comm]
  rw[e];lia
theorem pk_or (w:Nat)(hw:w<36893488147419103232)(P:Nat):(P*36893488147419103232)|||w=w+36893488147419103232*P:=by
 have h:=Nat.two_pow_add_eq_or_of_lt (i:=65) (b:=w) hw P;have e:(2:Nat)^65=36893488147419103232:=rfl;rw[e] at h;rw[mul_comm P, <-h];lia
noncomputable def Xs (m v:Nat):Nat:=if 18446744073709551616<=v*2 then v*2 ^^^ 18446744073709551616 ^^^ m else v*2
theorem UW (m v:Nat)(hm:m<18446744073709551616)(hv:v<18446744073709551616):Xs m v=(Xb (BitVec.ofNat 64 m) (BitVec.ofNat 64 v)).toNat:=by
 rw[VN];have em:(BitVec.ofNat 64 m).toNat=m:=by rw[toNat_ofNat];lia
 have ev:(BitVec.ofNat 64 v).toNat=v:=by rw[toNat_ofNat];lia
 rw[em,ev];rfl
theorem Xs_lt (m v:Nat)(hm:m<18446744073709551616)(hv:v<18446744073709551616):Xs m v<18446744073709551616:=by
 rw[UW m v hm hv];exact isLt _
theorem xlt {x y:Nat}(hx:x<18446744073709551616)(hy:y<18446744073709551616):x ^^^ y<18446744073709551616:=xor_lt_two_pow (n:=64) hx hy
theorem Xs_xor (m x y:Nat)(hm:m<18446744073709551616)(hx:x<18446744073709551616)(hy:y<18446744073709551616):Xs m (x ^^^ y)=Xs m x ^^^ Xs m y:=by
 rw[UW m _ hm (xlt hx hy),UW m x hm hx,UW m y hm hy,Zq,z9,toNat_xor]
theorem pk_step (m n:Nat)(f:Nat->Nat)(hm:m<18446744073709551616)(hf:∀c,c<n->f c<18446744073709551616):
  (pk n f*2) ^^^ (((pk n f*2/18446744073709551616)&&& pk n (λz=>1))*(18446744073709551616 ^^^ m))=pk n λc=>Xs m (f c):=by
 have h2:∀c,c<n->f c*2<36893488147419103232:=λc hc=>by have:=hf c hc;lia
 have hK:18446744073709551616 ^^^ m<36893488147419103232:=xor_lt_two_pow (n:=65) (by decide) (by lia);rw[Wa 2 n f,pk_hi h2,Wa];have hb:∀c,c<n->f c*2/18446744073709551616*(18446744073709551616 ^^^ m)<36893488147419103232:=λc hc=>by
  have:=hf c hc;have:f c*2/18446744073709551616=0\/f c*2/18446744073709551616=1:=by lia
  rcases this with e|e<;>rw[e]<;>lia
 rw[Wb h2 hb];refine iW λc hc=>?_;have:=hf c hc;unfold Xs;by_cases h:18446744073709551616<=f c*2
 ·have e:f c*2/18446744073709551616=1:=by lia
  rw[if_pos h,e,Nat.one_mul,Nat.xor_assoc]
 ·have e:f c*2/18446744073709551616=0:=by lia
  rw[if_neg h,e,Nat.zero_mul,Nat.xor_zero]
noncomputable def X:Nat->(Nat->Nat)->Nat
 |0,_=>0
 |n+1,f=>X n f ^^^ f n
theorem Wc:∀{n:Nat}{f:Nat->Nat},(∀i,i<n->f i<18446744073709551616)->X n f<18446744073709551616
 |0,_,_=>by show(0:Nat)<18446744073709551616;decide
 |n+1,f,h=>xlt (Wc λi hi=>h i (by lia)) (h n (by lia))
theorem Qk:∀{n:Nat}{f g:Nat->Nat},(∀i,i<n->f i=g i)->X n f=X n g
 |0,_,_,_=>rfl
 |n+1,f,g,h=>by
  show X n f ^^^ f n=X n g ^^^ g n;rw[Qk λi hi=>h i (by lia),h n (by lia)]
theorem X_add:∀(n:Nat) (f g:Nat->Nat),X n (λi=>f i ^^^ g i)=X n f ^^^ X n g
 |0,_,_=>by show(0:Nat)=0 ^^^ 0;decide
 |n+1,f,g=>by
  show X n (λi=>f i ^^^ g i) ^^^ (f n ^^^ g n)=(X n f ^^^ f n) ^^^ (X n g ^^^ g n);rw[X_add n f g];ac_rfl
theorem Xs_X (m:Nat)(hm:m<18446744073709551616):∀{n:Nat}{f:Nat->Nat},(∀i,i<n->f i<18446744073709551616)->Xs m (X n f)=X n λi=>Xs m (f i)
 |0,_,_=>rfl
 |n+1,f,h=>by
  show Xs m (X n f ^^^ f n)=X n _ ^^^ Xs m (f n);rw[Xs_xor m _ _ hm (Wc λi hi=>h i (by lia)) (h n (by lia)),Xs_X m hm λi hi=>h i (by lia)]
noncomputable def lane (m k:Nat)(x:Nat->Nat)(y:Nat->Nat->Nat)(i c:Nat):Nat:=X k λl=>jC m (y l c) (x l) i
theorem lane_step (m k:Nat)(x:Nat->Nat)(y:Nat->Nat->Nat)(i c:Nat)(hm:m<18446744073709551616)(hy:∀l,l<k->y l c<18446744073709551616)(hi:i<64):
  lane m k x y (i+1) c=Xs m (lane m k x y i c) ^^^ X k λl=>if (x l).testBit (63-i) then y l c else 0:=by
 unfold lane;rw[Xs_X m hm λl hl=>La m _ _ hm (hy l hl) i (by lia), <-X_add];refine Qk λl hl=>?_;rw[jC];unfold Nr;show(if (x l).testBit (63-i) then Xs m (jC m (y l c) (x l) i) ^^^ y l c else Xs m (jC m (y l c) (x l) i))=_;split
 ·rfl
 ·rw[Nat.xor_zero]
theorem lane_end (m k:Nat)(x:Nat->Nat)(y:Nat->Nat->Nat)(c:Nat)(hm:m<18446744073709551616)(hy:∀l,l<k->y l c<18446744073709551616):lane m k x y 64 c=X k λl=>fieldTimes m (x l) (y l c):=by
 unfold lane;refine Qk λl hl=>?_;rw[Nt m _ _ hm (hy l hl),lX]
theorem lane_lt (m k:Nat)(x:Nat->Nat)(y:Nat->Nat->Nat)(i c:Nat)(hm:m<18446744073709551616)(hy:∀l,l<k->y l c<18446744073709551616)(hi:i<=64):lane m k x y i c<18446744073709551616:=
 Wc λl hl=>La m _ _ hm (hy l hl) i hi
end Ln
namespace Ps
open GridTalk
structure lA where
 num:Nat
 at_:Nat
 given:List Nat
 ops:List Nat
noncomputable def vq:Leaf->Nat×List Nat
 | .table k=>(k,[])
 | .zeros r c=>(16,[r,c])
 | .unit n=>(17,[n])
 | .lit v=>(18,[v])
noncomputable def pU:One->Nat×List Nat
 | .turn=>(32,[])
 | .trace=>(33,[])
 | .power e=>(34,[e])
 | .closure=>(35,[])
 | .det=>(36,[])
 | .cut i p j q=>(37,[i,p,j,q])
def Jx:Two->Nat
 | .sum=>48
 | .diff=>49
 | .prod=>50
 | .each=>51
 | .kron=>52
 | .beside=>53
 | .below=>54
 | .scale=>55
noncomputable def post (n:Nat):Tree->List lA
 | .leaf p l=>[⟨(vq l).1,p,(vq l).2,[]⟩]
 | .one p o x=>post n x++[⟨(pU o).1,p,(pU o).2,[n+(post n x).length-1]⟩]
 | .two p o x y=>post n x++post (n+(post n x).length) y++[⟨Jx o,p,[],[n+(post n x).length-1,n+(post n x).length+(post (n+(post n x).length) y).length-1]⟩]
theorem Wf (n:Nat):∀t:Tree,0<(post n t).length
 | .leaf _ _=>by simp[post]
 | .one _ _ _=>by simp[post]
 | .two _ _ _ _=>by rw[post,length_append];simp
noncomputable def jH (c:Nat):Nat:=if 32<=c/\c<=37 then 1 else if 48<=c/\c<=55 then 2 else 0
noncomputable def begins (k around c:Nat):Bool:=decide (c<k)||((c == 16||c == 17||c == 18)||((decide (32<=c/\c<=37)||decide (48<=c/\c<=55))&&decide (around<32)))
noncomputable def move (W st:List lA):List lA×List lA:=match W with
 |[]=>([],st)
 |s::W=>if s.ops.length=jH s.num then(match W with
   |[]=>([],st++[s])
   |t::W'=>move (⟨t.num,t.at_,t.given,t.ops++[st.length]⟩::W') (st++[s])) else(s::W,st)
termination_by W.length
noncomputable def run (k:Nat)(b:List Nat)(p:Nat)(W st:List lA):Option Nat×List lA:=
 if W=[]/\st≠[] then(if p<b.length then(some p,st) else(none,st))
 else if h:p<b.length then
  if begins k W.length b[p]=true then
   if b.length<p+1+numbers b[p] then(some b.length,st)
   else run k b (p+1+numbers b[p]) (move (⟨b[p],p,(b.drop (p+1)).take (numbers b[p]),[]⟩::W) st).1 (move (⟨b[p],p,(b.drop (p+1)).take (numbers b[p]),[]⟩::W) st).2
  else(some p,st)
 else(some p,st)
termination_by b.length-p
noncomputable def Kw (W st:List lA)(t:Tree):List lA×List lA:=match W with
 |[]=>([],st++post st.length t)
 |s::W'=>move (⟨s.num,s.at_,s.given,s.ops++[st.length+(post st.length t).length-1]⟩::W') (st++post st.length t)
theorem RL {s:lA}{W st:List lA}(h:s.ops.length=jH s.num):move (s::W) st=match W with
   |[]=>([],st++[s])
   |t::W'=>move (⟨t.num,t.at_,t.given,t.ops++[st.length]⟩::W') (st++[s]):=by
 rw[move.eq_def];simp only[h,if_true]
theorem yr {s:lA}{W st:List lA}(h:¬s.ops.length=jH s.num):move (s::W) st=(s::W,st):=by
 rw[move.eq_def];simp only[h,if_false]
theorem vA {s:lA}{W st:List lA}{t:Tree}(h:s.ops.length=jH s.num)(pl:List lA)(hp:post st.length t=pl++[s]):move (s::W) (st++pl)=Kw W st t:=by
 rw[RL h];cases W with
 |nil=>
  show([],(st++pl)++[s])=([],st++post st.length t);rw[hp,append_assoc]
 |cons u W'=>
  show move (⟨u.num,u.at_,u.given,u.ops++[(st++pl).length]⟩::W') ((st++pl)++[s])=move (⟨u.num,u.at_,u.given,u.ops++[st.length+(post st.length t).length-1]⟩::W') (st++post st.length t);have e1:(st++pl).length=st.length+(post st.length t).length-1:=by rw[hp,length_append,length_append];simp
  rw[e1,hp,append_assoc]
theorem Ea {k c around:Nat}{r:List Nat}{l:Leaf}(h:leafOf k c r=some l):begins k around c=true/\jH c=0/\(vq l).1=c/\(numbers c<=r.length->(vq l).2=r.take (numbers c)):=by
 unfold leafOf at h;have hT:TABLE=16:=rfl;rw[hT] at h;split at h
 ·split at h
  ·injection h with h;subst h;rename_i h1 h2;refine⟨?_,?_,rfl,λz=>?_⟩
   ·unfold begins;rw[decide_eq_true h2];rfl
   ·unfold jH;rw[if_neg (by lia),if_neg (by lia)]
   ·have:numbers c=0:=by unfold numbers;rw[if_neg (by lia),if_neg (by lia),if_neg (by lia)]
    rw[this];rfl
  ·cases h
 ·split at h
  ·injection h with h;subst h;rename_i h1 h2;subst h2;refine⟨?_,rfl,rfl,λhl=>?_⟩
   ·unfold begins;simp
   ·have hl:2<=r.length:=hl
    match r,hl with
    |a::b::r,_=>rfl
  ·split at h
   ·injection h with h;subst h;rename_i h1 h2 h3;subst h3;refine⟨?_,rfl,rfl,λhl=>?_⟩
    ·unfold begins;simp
    ·have hl:1<=r.length:=hl
     match r,hl with
     |a::r,_=>rfl
   ·split at h
    ·injection h with h;subst h;rename_i h1 h2 h3 h4;subst h4;refine⟨?_,rfl,rfl,λhl=>?_⟩
     ·unfold begins;simp
     ·have hl:1<=r.length:=hl
      match r,hl with
      |a::r,_=>rfl
    ·cases h
theorem Ky {k c:Nat}{r:List Nat}(O:k<=16)(h:leafOf k c r=none):¬c<k/\c≠16/\c≠17/\c≠18:=by
 unfold leafOf at h;have hT:TABLE=16:=rfl;rw[hT] at h;split at h
 ·split at h
  ·cases h
  ·exact⟨by assumption,by lia,by lia,by lia⟩
 ·split at h
  ·cases h
  ·split at h
   ·cases h
   ·split at h
    ·cases h
    ·exact⟨by lia,by assumption,by assumption,by assumption⟩
theorem oneOf_some {c:Nat}{r:List Nat}{o:One}(h:oneOf c r=some o):32<=c/\c<=37/\(pU o).1=c/\(numbers c<=r.length->(pU o).2=r.take (numbers c)):=by
 unfold oneOf at h;split at h<;>first
  |(injection h with h;subst h;exact⟨by decide,by decide,rfl,λz=>rfl⟩)
  |(injection h with h;subst h;refine⟨by decide,by decide,rfl,λhl=>?_⟩;first
    |(have hl:1<=r.length:=hl;match r,hl with|a::r,_=>rfl)
    |(have hl:4<=r.length:=hl;match r,hl with|a::b::c::d::r,_=>rfl))
  |cases h
theorem oneOf_none {c:Nat}{r:List Nat}(h:oneOf c r=none):¬(32<=c/\c<=37):=by
 unfold oneOf at h;rintro⟨h1,h2⟩;have:c=32\/c=33\/c=34\/c=35\/c=36\/c=37:=by lia
 rcases this with rfl|rfl|rfl|rfl|rfl|rfl<;>cases h
theorem twoOf_some {c:Nat}{o:Two}(h:twoOf c=some o):48<=c/\c<=55/\Jx o=c:=by
 unfold twoOf at h;split at h<;>first
  |(injection h with h;subst h;exact⟨by decide,by decide,rfl⟩)
  |cases h
theorem twoOf_none {c:Nat}(h:twoOf c=none):¬(48<=c/\c<=55):=by
 unfold twoOf at h;rintro⟨h1,h2⟩;have:c=48\/c=49\/c=50\/c=51\/c=52\/c=53\/c=54\/c=55:=by lia
 rcases this with rfl|rfl|rfl|rfl|rfl|rfl|rfl|rfl<;>cases h
theorem drop_cons {b:List Nat}{p c:Nat}{r:List Nat}(h:b.drop p=c::r):∃hp:p<b.length,b[p]=c/\r=b.drop (p+1):=by
 have hp:p<b.length:=by
  rcases Nat.lt_or_ge p b.length with h1|h1
  ·exact h1
  ·rw[List.drop_eq_nil_of_le h1] at h;cases h
 refine⟨hp,?_⟩;rw[List.drop_eq_getElem_cons hp] at h;injection h with h1 h2
 exact⟨h1,h2.symm⟩
theorem drop_nil {b:List Nat}{p:Nat}(h:b.drop p=[]):¬p<b.length:=by
 intro hp;rw[List.drop_eq_getElem_cons hp] at h;cases h
section
variable {k:Nat}(O:k<=16){b:List Nat}
include O
theorem Wg {p:Nat}{W st:List lA}(live:¬(W=[]/\st≠[])){c:Nat}{r:List Nat}(hb:b.drop p=c::r)(hn:begins k W.length c=false):(run k b p W st).1=some p:=by
 obtain⟨hp,hc,_⟩:=drop_cons hb;rw[run,if_neg live,dif_pos hp,hc,hn];rfl
theorem Zy {p:Nat}{W st:List lA}(live:¬(W=[]/\st≠[]))(hb:b.drop p=[]):(run k b p W st).1=some p:=by
 rw[run,if_neg live,dif_neg (drop_nil hb)]
theorem Cw {p:Nat}{W st:List lA}(live:¬(W=[]/\st≠[])){c:Nat}{r:List Nat}(hb:b.drop p=c::r)(hn:begins k W.length c=true):
  (r.length<numbers c->(run k b p W st).1=some (p+1+r.length))/\(numbers c<=r.length->run k b p W st=run k b (p+1+numbers c) (move (⟨c,p,r.take (numbers c),[]⟩::W) st).1 (move (⟨c,p,r.take (numbers c),[]⟩::W) st).2/\p+1+numbers c<=b.length/\r.drop (numbers c)=b.drop (p+1+numbers c)):=by
 obtain⟨hp,hc,hr⟩:=drop_cons hb;have hl:r.length=b.length-(p+1):=by rw[hr,length_drop]
 constructor
 ·intro h;rw[run,if_neg live,dif_pos hp,hc,if_pos hn,if_pos (by lia)];show some b.length=_
  congr 1;lia
 ·intro h;refine⟨?_,by lia,by rw[hr,drop_drop]⟩;rw[run,if_neg live,dif_pos hp,hc,if_pos hn,if_neg (by lia), <-hr]
theorem run_read:∀(d p:Nat) (W st:List lA),W.length+d=32->¬(W=[]/\st≠[])->
  match read k d p (b.drop p) with
  | .error f=>(run k b p W st).1=some f
  | .ok (t,q,s)=>s=b.drop q/\p<q/\q<=b.length/\run k b p W st=run k b q (Kw W st t).1 (Kw W st t).2:=by
 intro d
 induction d with
 |zero=>
  intro p W st hd live;cases hb:b.drop p with
  |nil=>simp only[GridTalk.read];exact Zy O live hb
  |cons c r=>
   rw[GridTalk.read];cases e:leafOf k c r with
   |none=>
    simp only[];obtain⟨n1,n2,n3,n4⟩:=Ky O e;refine Wg O live hb ?_;unfold begins;have:¬W.length<32:=by lia
    simp[n1,n2,n3,n4,this]
   |some l=>
    simp only[];obtain⟨h1,h2,h3,h4⟩:=Ea (around:=W.length) e;obtain⟨s1,s2⟩:=Cw O live hb h1;unfold behind;by_cases hl:r.length<numbers c
    ·rw[if_pos hl];exact s1 hl
    ·rw[if_neg hl];obtain⟨g1,g2,g3⟩:=s2 (by lia);refine⟨g3,by lia,g2,?_⟩;rw[g1];have:move (⟨c,p,r.take (numbers c),[]⟩::W) st=Kw W st (.leaf p l):=by
      have q:=vA (s:=⟨c,p,r.take (numbers c),[]⟩) (W:=W) (st:=st) (t:=.leaf p l) (by rw[h2];rfl) [] (by rw[post,h3,h4 (by lia)];rfl);rw[append_nil] at q;exact q
     rw[this]
 |succ d ih=>
  intro p W st hd live;cases hb:b.drop p with
  |nil=>simp only[GridTalk.read];exact Zy O live hb
  |cons c r=>
   rw[GridTalk.read];cases e:leafOf k c r with
   |some l=>
    simp only[];obtain⟨h1,h2,h3,h4⟩:=Ea (around:=W.length) e;obtain⟨s1,s2⟩:=Cw O live hb h1;unfold behind;by_cases hl:r.length<numbers c
    ·rw[if_pos hl];exact s1 hl
    ·rw[if_neg hl];obtain⟨g1,g2,g3⟩:=s2 (by lia);refine⟨g3,by lia,g2,?_⟩;rw[g1];have:move (⟨c,p,r.take (numbers c),[]⟩::W) st=Kw W st (.leaf p l):=by
      have q:=vA (s:=⟨c,p,r.take (numbers c),[]⟩) (W:=W) (st:=st) (t:=.leaf p l) (by rw[h2];rfl) [] (by rw[post,h3,h4 (by lia)];rfl);rw[append_nil] at q;exact q
     rw[this]
   |none=>
    simp only[];obtain⟨n1,n2,n3,n4⟩:=Ky O e;have hW:W.length<32:=by lia
    cases e1:oneOf c r with
    |some o=>
     simp only[];obtain⟨c1,c2,h3,h4⟩:=oneOf_some e1;have Kz:begins k W.length c=true:=by unfold begins;simp[c1,c2,hW]
     have hno:jH c=1:=by unfold jH;rw[if_pos ⟨c1,c2⟩]
     obtain⟨s1,s2⟩:=Cw O live hb Kz;unfold behind;by_cases hl:r.length<numbers c
     ·rw[if_pos hl];exact s1 hl
     ·rw[if_neg hl];obtain⟨g1,g2,g3⟩:=s2 (by lia);have hm:move (⟨c,p,r.take (numbers c),[]⟩::W) st=(⟨c,p,r.take (numbers c),[]⟩::W,st):=by
       exact yr (by show¬0=jH c;lia)
      rw[hm] at g1;have q:=ih (p+1+numbers c) (⟨c,p,r.take (numbers c),[]⟩::W) st (by rw[length_cons];lia) (by rintro⟨z,_⟩;cases z);rw[<-g3] at q;cases e2:read k d (p+1+numbers c) (r.drop (numbers c)) with
      |error f=>simp only[e2] at q⊢;rw[g1];exact q
      |ok z=>
       obtain⟨x,u,v⟩:=z;simp only[e2] at q⊢;obtain⟨q1,q2,q3,q4⟩:=q;refine⟨q1,by lia,q3,?_⟩;rw[g1,q4];have:Kw (⟨c,p,r.take (numbers c),[]⟩::W) st x=Kw W st (.one p o x):=by
        show move (⟨c,p,r.take (numbers c),[]++[st.length+(post st.length x).length-1]⟩::W) (st++post st.length x)=_;exact vA (t:=.one p o x) (by rw[hno];rfl) _ (by rw[post,h3,h4 (by lia)];rfl)
       rw[this]
    |none=>
     simp only[];have m1:=oneOf_none e1;cases e2:twoOf c with
     |none=>
      simp only[];have m2:=twoOf_none e2;refine Wg O live hb ?_;unfold begins;simp[n1,n2,n3,n4,m1,m2]
     |some o=>
      simp only[];obtain⟨c1,c2,h3⟩:=twoOf_some e2;have Kz:begins k W.length c=true:=by unfold begins;simp[c1,c2,hW]
      have hno:jH c=2:=by unfold jH;rw[if_neg m1,if_pos ⟨c1,c2⟩]
      have hn0:numbers c=0:=by unfold numbers;rw[if_neg (by lia),if_neg (by lia),if_neg (by lia)]
      obtain⟨s1,s2⟩:=Cw O live hb Kz;obtain⟨g1,g2,g3⟩:=s2 (by lia);have hm:move (⟨c,p,r.take (numbers c),[]⟩::W) st=(⟨c,p,r.take (numbers c),[]⟩::W,st):=by
       exact yr (by show¬0=jH c;lia)
      rw[hm,hn0] at g1;rw[hn0] at g2 g3;have q:=ih (p+1+0) (⟨c,p,r.take 0,[]⟩::W) st (by rw[length_cons];lia) (by rintro⟨z,_⟩;cases z);rw[<-g3] at q;have er:r.drop 0=r:=rfl;rw[er] at q;have ep:p+1+0=p+1:=rfl;rw[ep] at q g1;cases e3:read k d (p+1) r with
      |error f=>rw[e3] at q;simp only[] at q⊢;rw[g1];exact q
      |ok z=>
       obtain⟨x,u,v⟩:=z;rw[e3] at q;simp only[] at q⊢;obtain⟨q1,q2,q3,q4⟩:=q;have hd1:Kw (⟨c,p,r.take 0,[]⟩::W) st x=(⟨c,p,[],[st.length+(post st.length x).length-1]⟩::W,st++post st.length x):=by
        show move (⟨c,p,r.take 0,[]++[st.length+(post st.length x).length-1]⟩::W) (st++post st.length x)=_;exact yr (by show¬1=jH c;lia)
       rw[hd1] at q4;have q':=ih u (⟨c,p,[],[st.length+(post st.length x).length-1]⟩::W) (st++post st.length x) (by rw[length_cons];lia) (by rintro⟨z,_⟩;cases z);rw[<-q1] at q';cases e4:read k d u v with
       |error f=>rw[e4] at q';simp only[] at q'⊢;rw[g1,q4];exact q'
       |ok z'=>
        obtain⟨y,u',v'⟩:=z';rw[e4] at q';simp only[] at q'⊢;obtain⟨t1,t2,t3,t4⟩:=q';refine⟨t1,by lia,t3,?_⟩;rw[g1,q4,t4];have:Kw (⟨c,p,[],[st.length+(post st.length x).length-1]⟩::W) (st++post st.length x) y=Kw W st (.two p o x y):=by
         show move (⟨c,p,[],[st.length+(post st.length x).length-1]++[(st++post st.length x).length+(post (st++post st.length x).length y).length-1]⟩::W) ((st++post st.length x)++post (st++post st.length x).length y)=_;rw[append_assoc];refine vA (t:=.two p o x y) (by rw[hno];rfl) _ ?_;rw[post,h3,length_append];rfl
        rw[this]
theorem run_parse (hl:b.length<=512):match parse k b with
  | .error f=>(run k b 0 [] []).1=some f
  | .ok t=>run k b 0 [] []=(none,post 0 t):=by
 have h:=run_read O (b:=b) 32 0 [] [] rfl (by rintro⟨_,z⟩;exact z rfl);unfold parse;have hL:LONG=512:=rfl;rw[hL,if_neg (by lia)];have e0:b.drop 0=b:=rfl;rw[e0] at h;have hD:DEEP=32:=rfl;rw[hD];cases e:read k 32 0 b with
 |error f=>rw[e] at h;exact h
 |ok z=>
  obtain⟨t,q,s⟩:=z;rw[e] at h;simp only[] at h;obtain⟨h1,h2,h3,h4⟩:=h;have hr:run k b 0 [] []=if q<b.length then(some q,post 0 t) else(none,post 0 t):=by
   rw[h4];show run k b q [] ([]++post 0 t)=_;rw[nil_append,run,if_pos ⟨rfl,λz=>by have:=Wf 0 t;rw[z] at this;simp at this⟩]
  cases s with
  |nil=>
   have:=drop_nil h1.symm;simp only[];rw[hr,if_neg this]
  |cons c r=>
   obtain⟨hq,_⟩:=drop_cons h1.symm;simp only[];rw[hr,if_pos hq]
end
noncomputable def oe {β:Type}(o:Option β)(p:Nat):Except Nat β:=match o with
 |some z=>.ok z
 |none=>.error p
section
variable {β:Type}
noncomputable def fold (lf:Leaf->Option β)(of:One->β->Option β)(tf:Two->β->β->Option β):Tree->Except Nat β
 | .leaf p l=>oe (lf l) p
 | .one p o x=>match fold lf of tf x with
  | .error f=>.error f
  | .ok u=>oe (of o u) p
 | .two p o x y=>match fold lf of tf x with
  | .error f=>.error f
  | .ok u=>match fold lf of tf y with
   | .error f=>.error f
   | .ok v=>oe (tf o u v) p
end
inductive Nd where
 |leaf (l:Leaf)
 |one (o:One) (i:Nat)
 |two (o:Two) (i j:Nat)
noncomputable def raw:Nat×Nd->lA
 |(p,.leaf l)=>⟨(vq l).1,p,(vq l).2,[]⟩
 |(p,.one o i)=>⟨(pU o).1,p,(pU o).2,[i]⟩
 |(p,.two o i j)=>⟨Jx o,p,[],[i,j]⟩
noncomputable def aV (n:Nat):Tree->List (Nat×Nd)
 | .leaf p l=>[(p,.leaf l)]
 | .one p o x=>aV n x++[(p,.one o (n+(aV n x).length-1))]
 | .two p o x y=>aV n x++aV (n+(aV n x).length) y++[(p,.two o (n+(aV n x).length-1) (n+(aV n x).length+(aV (n+(aV n x).length) y).length-1))]
theorem wB:∀(t:Tree) (n:Nat),post n t=(aV n t).map raw
 | .leaf p l,n=>rfl
 | .one p o x,n=>by
  rw[post,aV,map_append,wB x n,length_map];rfl
 | .two p o x y,n=>by
  rw[post,aV,map_append,map_append,wB x n,length_map,wB y,length_map];rfl
theorem yu (n:Nat)(t:Tree):0<(aV n t).length:=by
 have:=Wf n t;rw[wB,length_map] at this;exact this
section
variable {β:Type}
noncomputable def dN (lf:Leaf->Option β)(of:One->β->Option β)(tf:Two->β->β->Option β)(acc:List β):Nd->Option β
 | .leaf l=>lf l
 | .one o i=>match acc[i]? with
  |some u=>of o u
  |none=>none
 | .two o i j=>match acc[i]?,acc[j]? with
  |some u,some v=>tf o u v
  |_,_=>none
noncomputable def work (stp:List β->Nd->Option β):List (Nat×Nd)->List β->Except Nat (List β)
 |[],acc=>.ok acc
 |s::r,acc=>match stp acc s.2 with
  |some z=>work stp r (acc++[z])
  |none=>.error s.1
theorem Ql {acc zs:List β}{z:β}(h:zs.getLast? =some z):(acc++zs)[acc.length+zs.length-1]? =some z:=by
 rw[List.getLast?_eq_getElem?] at h;have:0<zs.length:=by
  cases zs with
  |nil=>simp at h
  |cons a b=>simp
 rw[getElem?_append_right (by lia)];have e:acc.length+zs.length-1-acc.length=zs.length-1:=by lia
 rw[e];exact h
theorem yw {lf:Leaf->Option β}{of:One->β->Option β}{tf:Two->β->β->Option β}:∀(t:Tree) (acc:List β) (r:List (Nat×Nd)),
  match fold lf of tf t with
  | .error f=>work (dN lf of tf) (aV acc.length t++r) acc=.error f
  | .ok z=>∃zs:List β,zs.length=(aV acc.length t).length/\zs.getLast? =some z/\work (dN lf of tf) (aV acc.length t++r) acc=work (dN lf of tf) r (acc++zs)
 | .leaf p l,acc,r=>by
  unfold fold;cases e:lf l with
  |none=>
   show(match lf l with|some z=>work (dN lf of tf) r (acc++[z])|none=>.error p)=.error p
   rw[e]
  |some z=>
   refine⟨[z],rfl,rfl,?_⟩
   show(match lf l with|some z=>work (dN lf of tf) r (acc++[z])|none=>.error p)=_
   rw[e]
 | .one p o x,acc,r=>by
  have ea:aV acc.length (.one p o x)++r=aV acc.length x++((p,.one o (acc.length+(aV acc.length x).length-1))::r):=by
   rw[aV,append_assoc];rfl
  have ih:=yw (lf:=lf) (of:=of) (tf:=tf) x acc ((p,.one o (acc.length+(aV acc.length x).length-1))::r);rw[ea];unfold fold;cases e:fold lf of tf x with
  |error f=>rw[e] at ih;exact ih
  |ok u=>
   rw[e] at ih;obtain⟨zs,h1,h2,h3⟩:=ih;have h:dN lf of tf (acc++zs) (.one o (acc.length+(aV acc.length x).length-1))=of o u:=by
    show(match (acc++zs)[acc.length+(aV acc.length x).length-1]? with|some u=>of o u|none=>none)=of o u
    rw[<-h1,Ql h2]
   simp only[];cases e2:of o u with
   |none=>
    simp only[oe];rw[h3];rw[e2] at h
    show(match dN lf of tf (acc++zs) (.one o (acc.length+(aV acc.length x).length-1)) with|some z=>work (dN lf of tf) r (acc++zs++[z])|none=>.error p)=.error p
    rw[h]
   |some z=>
    simp only[oe];rw[e2] at h;refine⟨zs++[z],by rw[aV,length_append,length_append,h1];rfl,by simp,?_⟩;rw[h3]
    show(match dN lf of tf (acc++zs) (.one o (acc.length+(aV acc.length x).length-1)) with|some z=>work (dN lf of tf) r (acc++zs++[z])|none=>.error p)=_
    rw[h];show work _ r (acc++zs++[z])=work _ r (acc++(zs++[z]));rw[append_assoc]
 | .two p o x y,acc,r=>by
  have ea:∀px py:List (Nat×Nd),∀s:Nat×Nd,px++py++[s]++r=px++(py++(s::r)):=λpx py s=>by simp
  rw[aV,ea];have ih:=yw (lf:=lf) (of:=of) (tf:=tf) x acc (aV (acc.length+(aV acc.length x).length) y++((p,.two o (acc.length+(aV acc.length x).length-1) (acc.length+(aV acc.length x).length+(aV (acc.length+(aV acc.length x).length) y).length-1))::r));unfold fold;cases e:fold lf of tf x with
  |error f=>rw[e] at ih;exact ih
  |ok u=>
   rw[e] at ih;obtain⟨zs,h1,h2,h3⟩:=ih;simp only[];have el:(acc++zs).length=acc.length+(aV acc.length x).length:=by rw[length_append,h1]
   have ih2:=yw (lf:=lf) (of:=of) (tf:=tf) y (acc++zs) ((p,.two o (acc.length+(aV acc.length x).length-1) (acc.length+(aV acc.length x).length+(aV (acc.length+(aV acc.length x).length) y).length-1))::r);rw[el] at ih2;cases e2:fold lf of tf y with
   |error f=>rw[e2] at ih2;simp only[] at ih2⊢;rw[h3];exact ih2
   |ok v=>
    rw[e2] at ih2;obtain⟨ws,g1,g2,g3⟩:=ih2;simp only[];have h:dN lf of tf (acc++zs++ws) (.two o (acc.length+(aV acc.length x).length-1) (acc.length+(aV acc.length x).length+(aV (acc.length+(aV acc.length x).length) y).length-1))=tf o u v:=by
     have q1:(acc++zs++ws)[acc.length+(aV acc.length x).length-1]? =some u:=by
      have q:=Ql (acc:=acc) h2;rw[h1] at q;rw[getElem?_append_left (by rw[el];have:=yu acc.length x;lia)];exact q
     have q2:(acc++zs++ws)[acc.length+(aV acc.length x).length+(aV (acc.length+(aV acc.length x).length) y).length-1]? =some v:=by
      have q:=Ql (acc:=acc++zs) g2;rw[el,g1] at q;exact q
     simp only[dN,q1,q2]
    generalize (Nd.two o (acc.length+(aV acc.length x).length-1) (acc.length+(aV acc.length x).length+(aV (acc.length+(aV acc.length x).length) y).length-1))=nd at h h3 g3⊢;cases e3:tf o u v with
    |none=>
     simp only[oe];rw[h3,g3];rw[e3] at h
     show(match dN lf of tf (acc++zs++ws) nd with|some z=>work (dN lf of tf) r (acc++zs++ws++[z])|none=>.error p)=.error p
     rw[h]
    |some z=>
     simp only[oe];rw[e3] at h;refine⟨zs++ws++[z],by rw[length_append,length_append,length_append,length_append,h1,g1];rfl,by simp,?_⟩;rw[h3,g3]
     show(match dN lf of tf (acc++zs++ws) nd with|some z=>work (dN lf of tf) r (acc++zs++ws++[z])|none=>.error p)=_
     rw[h];simp
theorem Wh (lf:Leaf->Option β)(of:One->β->Option β)(tf:Two->β->β->Option β)(t:Tree):
  match fold lf of tf t with
  | .error f=>work (dN lf of tf) (aV 0 t) []=.error f
  | .ok z=>∃zs:List β,zs.length=(aV 0 t).length/\zs.getLast? =some z/\work (dN lf of tf) (aV 0 t) []=.ok zs:=by
 have h:=yw (lf:=lf) (of:=of) (tf:=tf) t [] [];cases e:fold lf of tf t with
 |error f=>rw[e] at h;simp only[append_nil] at h;exact h
 |ok z=>
  rw[e] at h;obtain⟨zs,h1,h2,h3⟩:=h;exact⟨zs,h1,h2,by rw[append_nil] at h3;exact h3⟩
end
noncomputable def pW (sizes:List Size):Leaf->Option Size
 | .table k=>some (sizes.getD k (0,0))
 | .zeros r c=>if (sized r&&sized c)=true then some (r,c) else none
 | .unit n=>if sized n=true then some (n,n) else none
 | .lit _=>some (1,1)
noncomputable def pB (minus:Bool)(o:One)(s:Size):Option Size:=(oneSize minus 0 o s).toOption
def pC (minus:Bool)(o:Two)(s t:Size):Option Size:=(twoSize minus 0 o s t).toOption
theorem NZ (b:Bool)(s:Size)(p:Nat):whether b s p=oe (whether b s 0).toOption p:=by
 unfold whether;cases b<;>rfl
theorem N5 (minus:Bool)(p:Nat)(o:One)(s:Size):oneSize minus p o s=oe (pB minus o s) p:=by
 unfold pB;cases o with
 |turn=>rfl
 |_=>exact NZ _ _ _
theorem N6 (minus:Bool)(p:Nat)(o:Two)(s t:Size):twoSize minus p o s t=oe (pC minus o s t) p:=by
 unfold pC;cases o<;>exact NZ _ _ _
theorem vB (minus:Bool)(sizes:List Size):∀t:Tree,t.shape minus sizes=fold (pW sizes) (pB minus) (pC minus) t
 | .leaf p l=>by
  cases l with
  |table k=>rfl
  |zeros r c=>simp only[GridTalk.Tree.shape,fold,pW,whether,oe];split<;>rfl
  |unit n=>simp only[GridTalk.Tree.shape,fold,pW,whether,oe];split<;>rfl
  |lit v=>rfl
 | .one p o x=>by
  simp only[GridTalk.Tree.shape,fold];rw[vB minus sizes x];cases fold (pW sizes) (pB minus) (pC minus) x with
  |error f=>rfl
  |ok u=>simp only[];exact N5 minus p o u
 | .two p o x y=>by
  simp only[GridTalk.Tree.shape,fold];rw[vB minus sizes x,vB minus sizes y];cases fold (pW sizes) (pB minus) (pC minus) x with
  |error f=>rfl
  |ok u=>
   cases fold (pW sizes) (pB minus) (pC minus) y with
   |error f=>rfl
   |ok v=>simp only[];exact N6 minus p o u v
noncomputable def Af (A:Arith)(tab:List Mat):Leaf->Option Mat
 | .table k=>some (tab.getD k noMat)
 | .zeros r c=>(made A 0 r c λz z=>A.none_).toOption
 | .unit n=>(made A 0 n n (unitAt A)).toOption
 | .lit v=>some ⟨1,1,[[v]]⟩
def Ag (A:Arith)(o:One)(x:Mat):Option Mat:=(oneValue A 0 o x).toOption
noncomputable def Ah (A:Arith)(o:Two)(x y:Mat):Option Mat:=(twoValue A 0 o x y).toOption
theorem lY (A:Arith)(p r c:Nat)(f:Nat->Nat->Int):made A p r c f=oe (made A 0 r c f).toOption p:=by
 unfold made;cases allOf (λ(i:Nat)=>allOf (λ(j:Nat)=>A.word (f i j)) (range c)) (range r)<;>rfl
theorem RM (A:Arith)(p:Nat)(x:Mat):∀e,raised A p x e=oe (raised A 0 x e).toOption p
 |0=>lY A p _ _ _
 |e+1=>by
  rw[raised,raised,RM A p x e];cases raised A 0 x e with
  |error f=>rfl
  |ok z=>exact lY A p _ _ _
theorem Wi (A:Arith)(p:Nat)(x:Mat):∀e,stage A p x e=oe (stage A 0 x e).toOption p
 |0=>lY A p _ _ _
 |e+1=>by
  rw[stage,stage,Wi A p x e];cases stage A 0 x e with
  |error f=>rfl
  |ok z=>exact lY A p _ _ _
theorem Yv (A:Arith)(p:Nat)(o:One)(x:Mat):oneValue A p o x=oe (Ag A o x) p:=by
 unfold Ag;cases o with
 |turn=>rfl
 |trace=>exact lY _ _ _ _ _
 |power e=>exact RM _ _ _ _
 |closure=>exact Wi _ _ _ _
 |det=>exact lY _ _ _ _ _
 |cut=>rfl
theorem Yw (A:Arith)(p:Nat)(o:Two)(x y:Mat):twoValue A p o x y=oe (Ah A o x y) p:=by
 unfold Ah;cases o with
 |beside=>rfl
 |below=>rfl
 |_=>exact lY _ _ _ _ _
theorem vC (A:Arith)(tab:List Mat):∀t:Tree,t.value A tab=fold (Af A tab) (Ag A) (Ah A) t
 | .leaf p l=>by
  cases l with
  |table k=>rfl
  |zeros r c=>simp only[GridTalk.Tree.value,fold,Af];exact lY _ _ _ _ _
  |unit n=>simp only[GridTalk.Tree.value,fold,Af];exact lY _ _ _ _ _
  |lit v=>rfl
 | .one p o x=>by
  simp only[GridTalk.Tree.value,fold];rw[vC A tab x];cases fold (Af A tab) (Ag A) (Ah A) x with
  |error f=>rfl
  |ok u=>simp only[];exact Yv A p o u
 | .two p o x y=>by
  simp only[GridTalk.Tree.value,fold];rw[vC A tab x,vC A tab y];cases fold (Af A tab) (Ag A) (Ah A) x with
  |error f=>rfl
  |ok u=>
   cases fold (Af A tab) (Ag A) (Ah A) y with
   |error f=>rfl
   |ok v=>simp only[];exact Yw A p o u v
noncomputable def clean (A:Arith)(tab:List Mat):Nd->Bool
 | .leaf (.table k)=>(tab.getD k noMat).words.all λ(r:List Nat)=>r.all A.number
 | .leaf (.lit v)=>A.number v
 |_=>true
theorem zB {α:Type}(p:α->Bool)(l r:List α):(l++r).find? p=match l.find? p with
  |some a=>some a
  |none=>r.find? p:=by
 rw[List.find?_append];cases l.find? p<;>rfl
theorem wC (A:Arith)(tab:List Mat):∀(t:Tree) (n:Nat),t.bad A tab=((aV n t).find? λs=> !clean A tab s.2).map (·.1)
 | .leaf p l,n=>by
  cases l with
  |table k=>
   simp only[GridTalk.Tree.bad,aV,find?_cons,List.find?_nil,clean];split
   ·rename_i h;rw[h];rfl
   ·rename_i h;have h:((tab.getD k noMat).words.all λ(r:List Nat)=>r.all A.number)=false:=by simpa using h
    rw[h];rfl
  |lit v=>
   simp only[GridTalk.Tree.bad,aV,find?_cons,List.find?_nil,clean];split
   ·rename_i h;rw[h];rfl
   ·rename_i h;have h:A.number v=false:=by simpa using h
    rw[h];rfl
  |zeros r c=>rfl
  |unit n=>rfl
 | .one p o x,n=>by
  simp only[GridTalk.Tree.bad];rw[aV,zB,wC A tab x n];cases(aV n x).find? λs=> !clean A tab s.2 with
  |some a=>rfl
  |none=>rfl
 | .two p o x y,n=>by
  simp only[GridTalk.Tree.bad];rw[aV,zB,zB,wC A tab x n,wC A tab y (n+(aV n x).length)];cases(aV n x).find? λs=> !clean A tab s.2 with
  |some a=>rfl
  |none=>
   cases(aV (n+(aV n x).length) y).find? λs=> !clean A tab s.2 with
   |some a=>rfl
   |none=>rfl
end Ps
namespace Tb
open GridTalk
noncomputable def tab {α:Type}(r c:Nat)(g:Nat->Nat->α):List α:=(range (r*c)).map λk=>g (k/c) (k%c)
theorem iR {α:Type}(r c:Nat)(g:Nat->Nat->α):(tab r c g).length=r*c:=by simp[tab]
theorem Wj {α:Type}(r c:Nat)(L:Nat->Nat->List α):((range r).flatMap λi=>(range c).flatMap λj=>L i j)=(range (r*c)).flatMap λk=>L (k/c) (k%c):=by
 have h:=congrArg (List.flatMap λp:Nat×Nat=>L p.1 p.2) (cZ.m7 r c);rw[List.flatMap_assoc,List.flatMap_map] at h;refine Eq.trans ?_ h
 congr 1
 funext i;rw[List.flatMap_map]
theorem dB {α:Type}(r c:Nat)(g:Nat->Nat->α):((range r).flatMap λi=>(range c).map λj=>g i j)=tab r c g:=by
 have h:=congrArg (map λp:Nat×Nat=>g p.1 p.2) (cZ.m7 r c);rw[List.map_flatMap,map_map] at h;refine Eq.trans ?_ h
 congr 1
 funext i;rw[map_map];rfl
theorem pD {α:Type}{r c:Nat}{f g:Nat->Nat->α}(h:∀i j,i<r->j<c->f i j=g i j):tab r c f=tab r c g:=by
 unfold tab;refine map_congr_left λk O=>?_;have O:=List.mem_range.mp O;have hc:0<c:=by
  rcases Nat.eq_zero_or_pos c with z|z
  ·subst z;simp at O
  ·exact z
 exact h _ _ (div_lt_of_lt_mul (by rw[mul_comm];exact O)) (mod_lt _ hc)
theorem Ai {α:Type}{r c:Nat}{g:Nat->Nat->α}{C:α->Prop}(h:∀i j,i<r->j<c->C (g i j)):∀z∈tab r c g,C z:=by
 intro z hz;unfold tab at hz;obtain⟨k,O,rfl⟩:=mem_map.mp hz;have O:=List.mem_range.mp O;have hc:0<c:=by
  rcases Nat.eq_zero_or_pos c with z|z
  ·subst z;simp at O
  ·exact z
 exact h _ _ (div_lt_of_lt_mul (by rw[mul_comm];exact O)) (mod_lt _ hc)
theorem rE {α β:Type}(r c:Nat)(g:Nat->Nat->α)(f:α->β):(tab r c g).map f=tab r c λi j=>f (g i j):=by
 unfold tab;rw[map_map];rfl
theorem Jy {α:Type}(r c:Nat)(g h:Nat->Nat->α)(f:α->α->α):zipWith f (tab r c g) (tab r c h)=tab r c λi j=>f (g i j) (h i j):=by
 unfold tab;rw[List.zipWith_map]
 induction range (r*c) with
 |nil=>rfl
 |cons a l ih=>rw[List.zipWith_cons_cons,ih,map_cons]
theorem N7 {α:Type}{r c:Nat}{g:Nat->Nat->α}{i j:Nat}(hi:i<r)(hj:j<c):(tab r c g)[i*c+j]? =some (g i j):=by
 have O:i*c+j<r*c:=by
  have:(i+1)*c<=r*c:=mul_le_mul_right _ hi;rw[succ_mul] at this;lia
 unfold tab;rw[getElem?_map,getElem?_range O];have e1:(i*c+j)/c=i:=by
  rw[mul_comm i c,Nat.mul_add_div (by lia),Nat.div_eq_of_lt hj];rfl
 have e2:(i*c+j)%c=j:=by
  rw[mul_comm i c,Nat.mul_add_mod,mod_eq_of_lt hj]
 show some (g ((i*c+j)/c) ((i*c+j)%c))=some (g i j);rw[e1,e2]
theorem Zz {α:Type}{r c:Nat}{g:Nat->Nat->α}{l:List α}(hl:l.length=r*c)(h:∀i j,i<r->j<c->l[i*c+j]? =some (g i j)):l=tab r c g:=by
 apply ext_getElem?;intro k;by_cases O:k<r*c
 ·have hc:0<c:=by
   rcases Nat.eq_zero_or_pos c with z|z
   ·subst z;simp at O
   ·exact z
  have h1:k/c<r:=div_lt_of_lt_mul (by rw[mul_comm];exact O);have h2:k%c<c:=mod_lt _ hc;have e:k/c*c+k%c=k:=by rw[mul_comm];exact div_add_mod _ _
  have a:=h _ _ h1 h2;have b:=N7 (g:=g) h1 h2;rw[e] at a b;rw[a,b]
 ·rw[getElem?_eq_none (by lia),getElem?_eq_none (by rw[iR];lia)]
theorem tab_row {α:Type}{r c:Nat}{g:Nat->Nat->α}{i:Nat}(hi:i<r):((tab r c g).drop (i*c)).take c=(range c).map λj=>g i j:=by
 apply ext_getElem?;intro j;by_cases hj:j<c
 ·rw[getElem?_take_of_lt hj,getElem?_drop,N7 hi hj,getElem?_map,getElem?_range hj];rfl
 ·rw[getElem?_eq_none (by rw[length_take];lia),getElem?_eq_none (by rw[length_map,length_range];lia)]
theorem ZC {α:Type}{r c:Nat}{g:Nat->Nat->α}{j:Nat}(hj:j<c):((range r).filterMap λi=>(tab r c g)[i*c+j]?)=(range r).map λi=>g i j:=by
 have:∀l:List Nat,(∀i∈l,i<r)->l.filterMap (λi=>(tab r c g)[i*c+j]?)=l.map λi=>g i j:=by
  intro l
  induction l with
  |nil=>intro _;rfl
  |cons i l ih=>
   intro h;have q:=N7 (g:=g) (h i mem_cons_self) hj;rw[filterMap_cons,q,map_cons];exact congrArg (List.cons _) (ih λk O=>h k (mem_cons_of_mem _ O))
 exact this _ λi hi=>List.mem_range.mp hi
theorem tab_append {α:Type}(r r' c:Nat)(g:Nat->Nat->α):tab (r+r') c g=tab r c g++tab r' c λi j=>g (r+i) j:=by
 rw[<-dB, <-dB, <-dB,List.range_add,flatMap_append,List.flatMap_map]
theorem Yx {α:Type}(c c':Nat)(f:Nat->α):((range (c+c')).map f)=(range c).map f++(range c').map λj=>f (c+j):=by
 rw[List.range_add,map_append,map_map];rfl
theorem Eb {α β:Type}{l:List α}{f g:α->List β}(h:∀x∈l,f x=g x):l.flatMap f=l.flatMap g:=by
 induction l with
 |nil=>rfl
 |cons a l ih=>rw[flatMap_cons,flatMap_cons,h a mem_cons_self,ih λx hx=>h x (mem_cons_of_mem _ hx)]
theorem N8 {α:Type}(r c c':Nat)(f g:Nat->Nat->α):((range r).flatMap λi=>((range c).map λj=>f i j)++(range c').map λj=>g i j)=tab r (c+c') λi j=>if j<c then f i j else g i (j-c):=by
 rw[<-dB];refine Eb λi z=>?_;rw[Yx]
 congr 1
 ·refine map_congr_left λj hj=>?_;rw[if_pos (List.mem_range.mp hj)]
 ·refine map_congr_left λj z=>?_;rw[if_neg (by lia),Nat.add_sub_cancel_left]
theorem kron_tab {α:Type}(r c r' c':Nat)(f:Nat->Nat->Nat->Nat->α):((range r).flatMap λi=>(range r').flatMap λi'=>(range c).flatMap λj=>(range c').map λj'=>f i i' j j')=
  tab (r*r') (c*c') λI J=>f (I/r') (I%r') (J/c') (J%c'):=by
 rw[Wj, <-dB];refine Eb λI z=>?_;rw[dB];rfl
theorem ones_tab {α:Type}(n:Nat)(hn:1<=n)(o z:α):((replicate n (o::replicate n z)).flatten).take (n*n)=tab n n λi j=>if i=j then o else z:=by
 have hlen:∀k,((replicate k (o::replicate n z)).flatten).length=k*(n+1):=by
  intro k
  induction k with
  |zero=>simp
  |succ k ih=>rw[replicate_succ,flatten_cons,length_append,ih,succ_mul];simp;lia
 have hat:∀k t,t<k*(n+1)->((replicate k (o::replicate n z)).flatten)[t]? =some (if t%(n+1)=0 then o else z):=by
  intro k
  induction k with
  |zero=>intro t h;lia
  |succ k ih=>
   intro t h;rw[replicate_succ,flatten_cons];by_cases ht:t<n+1
   ·rw[getElem?_append_left (by simp;lia),mod_eq_of_lt ht];cases t with
    |zero=>rfl
    |succ t=>
     rw[List.getElem?_cons_succ,List.getElem?_replicate,if_pos (by lia),if_neg (by lia)]
   ·rw[getElem?_append_right (by simp;lia)];have e:t-(o::replicate n z).length=t-(n+1):=by simp
    rw[e,ih (t-(n+1)) (by rw[succ_mul] at h;lia)];have:t%(n+1)=(t-(n+1))%(n+1):=by
     rw[Nat.mod_eq_sub_mod (by lia)]
    rw[this]
 have hle:n*n<=n*(n+1):=Nat.mul_le_mul_left _ (by lia);refine Zz ?_ λi j hi hj=>?_
 ·rw[length_take,hlen];lia
 ·have O:i*n+j<n*n:=by
   have:(i+1)*n<=n*n:=mul_le_mul_right _ hi;rw[succ_mul] at this;lia
  rw[getElem?_take_of_lt O,hat n _ (by lia)]
  congr 1
  have e:i*n+j=(if j<i then(i-1) else i)*(n+1)+(if j<i then n+1+j-i else j-i):=by
   by_cases h:j<i
   ·rw[if_pos h,if_pos h];obtain⟨i',rfl⟩:∃i',i=i'+1:=⟨i-1,by lia⟩;rw[Nat.add_sub_cancel,succ_mul,mul_succ];lia
   ·rw[if_neg h,if_neg h,mul_succ];lia
  have hm:(i*n+j)%(n+1)=if j<i then n+1+j-i else j-i:=by
   rw[e,mul_comm,Nat.mul_add_mod];apply mod_eq_of_lt;split<;>lia
  rw[hm];by_cases h:i=j
  ·subst h;simp
  ·rw[if_neg h];split<;>rw[if_neg (by lia)]
theorem rep_tab {α:Type}(r c:Nat)(z:α):replicate (r*c) z=tab r c λy y=>z:=by
 unfold tab;rw[List.map_const',length_range]
end Tb
namespace Bit
open PySem
theorem or_eq (x y:Nat):x|||y=(x ^^^ y)+(x&&& y):=by
 induction x using Nat.strongRecOn generalizing y with
 |_ x ih=>
  by_cases hx:x=0
  ·subst hx;simp
  ·have h1:=ih (x/2) (by lia) (y/2);have a:=div_add_mod (x|||y) 2
   have b:=div_add_mod (x ^^^ y) 2;have c:=div_add_mod (x&&& y) 2;rw[Nat.or_div_two] at a;rw[Nat.xor_div_two] at b;rw[Nat.and_div_two] at c;have o:=@Nat.or_mod_two_eq_one x y;have n:=@Nat.and_mod_two_eq_one x y;have e:=@Nat.xor_mod_two_eq_one x y;have m1:=Nat.mod_two_eq_zero_or_one (x|||y)
   have m2:=Nat.mod_two_eq_zero_or_one (x ^^^ y);have m3:=Nat.mod_two_eq_zero_or_one (x&&& y);have m4:=Nat.mod_two_eq_zero_or_one x;have m5:=Nat.mod_two_eq_zero_or_one y;have a2:(x|||y)%2=((x ^^^ y)%2+(x&&& y)%2):=by
    clear a b c h1 ih hx;generalize (x|||y)%2=u at*
    generalize (x ^^^ y)%2=v at*;generalize (x&&& y)%2=z at*;rcases m4 with m4|m4<;>rcases m5 with m5|m5<;>simp[m4,m5] at o n e<;>lia
   clear o n e m1 m2 m3 m4 m5 ih hx;lia
theorem Wk {x y:Int}(hx:0<=x)(hy:0<=y):Builtin.bitAnd x y=((x.toNat&&& y.toNat:Nat):Int):=by
 unfold Builtin.bitAnd;rw[decide_eq_true hx,decide_eq_true hy]
theorem U0 {x y:Int}(hx:0<=x)(hy:0<=y):Builtin.bitOr x y=((x.toNat|||y.toNat:Nat):Int):=by
 unfold Builtin.bitOr Builtin.bitAnd;have h1:¬0<=Builtin.bitNot x:=by unfold Builtin.bitNot;lia
 have h2:¬0<=Builtin.bitNot y:=by unfold Builtin.bitNot;lia
 rw[decide_eq_false h1,decide_eq_false h2];have nn:∀z:Int,Builtin.bitNot (Builtin.bitNot z)=z:=by intro z;unfold Builtin.bitNot;lia
 show Builtin.bitNot (Builtin.bitNot _)=_;rw[nn,nn,nn]
theorem Oa {x y:Int}(hx:0<=x)(hy:0<=y):Builtin.bitXor x y=((x.toNat ^^^ y.toNat:Nat):Int):=by
 unfold Builtin.bitXor;rw[U0 hx hy,Wk hx hy,or_eq];lia
end Bit
namespace Flat
open PyFlat
theorem whole_id (c:List (List Int)):PyXqapaa.whole c=c:=by
 rcases c with _|⟨_|⟨n|n,h⟩,t⟩
 ·rfl
 ·rfl
 ·rcases n with _|_|_|_|_|_|_|_|_|_|_|_|n<;>rcases h with _|⟨x,_|⟨y,_|⟨z,h⟩⟩⟩<;>rcases t with _|⟨r,_|⟨r2,_|⟨r3,t⟩⟩⟩<;>rfl
 ·rfl
theorem map_whole (cs:List (List (List Int))):cs.map PyXqapaa.whole=cs:=by
 induction cs with
 |nil=>rfl
 |cons c cs ih=>rw[map_cons,whole_id,ih]
theorem calls_eq (l:List Int):PyXqapaa.calls l=PyFlat.calls PyXqapaa.shape l.length l:=by
 unfold PyXqapaa.calls;cases PyFlat.calls PyXqapaa.shape l.length l with
 |none=>rfl
 |some cs=>show some (cs.map PyXqapaa.whole)=some cs;rw[map_whole]
theorem first {sh:Int->Option (Nat×Nat)}{f:Nat}{p:Int}{r:List Int}{cs:List (List (List Int))}(h:calls sh f (p::r)=some cs):
  ∃(f' n k:Nat) (xs:List (List Int)) (t:List Int) (cs':List (List (List Int))),f=f'+1/\sh p=some (n,k)/\n<=r.length/\rows k (r.drop n)=some (xs,t)/\calls sh f' t=some cs'/\cs=((p::r.take n)::xs)::cs':=by
 cases f with
 |zero=>simp[calls] at h
 |succ f'=>
  rw[calls] at h;unfold call at h;cases e:sh p with
  |none=>simp[e] at h
  |some nk=>
   obtain⟨n,k⟩:=nk;simp only[e] at h;by_cases hl:r.length<n
   ·simp[hl] at h
   ·simp only[hl,if_false] at h;cases e2:rows k (r.drop n) with
    |none=>simp[e2] at h
    |some xt=>
     obtain⟨xs,t⟩:=xt;simp only[e2] at h;cases e3:calls sh f' t with
     |none=>simp[e3] at h
     |some cs'=>
      simp only[e3] at h;injection h with h
      exact⟨f',n,k,xs,t,cs',rfl,rfl,by lia,e2,e3,h.symm⟩
theorem RN {r:List Int}{xs:List (List Int)}{t:List Int}(h:rows 0 r=some (xs,t)):xs=[]/\t=r:=by
 rw[rows] at h;injection h with h;injection h with h1 h2;exact⟨h1.symm,h2.symm⟩
theorem RP {k:Nat}{r:List Int}{xs:List (List Int)}{t:List Int}(h:rows (k+1) r=some (xs,t)):
  ∃(n:Nat) (r':List Int) (ys:List (List Int)),r=(n:Int)::r'/\n<=r'.length/\rows k (r'.drop n)=some (ys,t)/\xs=r'.take n::ys:=by
 rw[rows] at h;cases r with
 |nil=>simp[row] at h
 |cons m r'=>
  unfold row at h;by_cases hm:0<=m/\m.toNat<=r'.length
  ·simp only[hm,and_self,if_true] at h;cases e:rows k (r'.drop m.toNat) with
   |none=>simp[e] at h
   |some yt=>
    obtain⟨ys,t'⟩:=yt;simp only[e] at h;injection h with h;injection h with h1 h2;subst h1 h2;exact⟨m.toNat,r',ys,by congr 1;lia,hm.2,e,rfl⟩
  ·simp only[hm,if_false] at h;cases h
theorem KC:∀{k:Nat}{r:List Int}{xs:List (List Int)}{t:List Int},rows k r=some (xs,t)->xs.length=k
 |0,r,xs,t,h=>by rw[(RN h).1];rfl
 |k+1,r,xs,t,h=>by
  obtain⟨n,r',ys,_,_,h2,rfl⟩:=RP h;rw[length_cons,KC h2]
theorem told_cons {a:List Int}{l:List (List Int)}:told (a::l)=(a.length:Int)::a++told l:=by
 unfold told;rw[flatMap_cons]
end Flat
namespace dj
open GridTalkNeutral
theorem Aj {z:Int}(h:natural z 64=true):∃n:Nat,z=n/\n<18446744073709551616:=by
 unfold natural at h;rw[and_eq_true,decide_eq_true_eq,decide_eq_true_eq] at h;refine⟨z.toNat,by lia,?_⟩;have:(2:Int)^64=18446744073709551616:=by decide
 lia
theorem Ob {l:List Int}(h:(decide (l.length<=600)&&l.all (λ(z:Int)=>natural z 64))=true):l.length<=600/\∃n:List Nat,l=n.map (λx:Nat=>(x:Int))/\∀x∈n,x<18446744073709551616:=by
 rw[and_eq_true,decide_eq_true_eq,all_eq_true] at h;refine⟨h.1,l.map toNat,?_,λx hx=>?_⟩
 ·rw[map_map];have:∀z∈l,((λx:Nat=>(x:Int))∘toNat) z=z:=λz hz=>by
   obtain⟨n,e,_⟩:=Aj (h.2 z hz);show((z.toNat:Nat):Int)=z;lia
  rw[map_congr_left this];simp
 ·obtain⟨z,hz,rfl⟩:=mem_map.mp hx;obtain⟨n,e,hn⟩:=Aj (h.2 z hz);lia
theorem two {p:Int}(hp:p=0\/p=3\/p=4\/p=5\/p=6){ns:List Int}{rs:List (List Int)}(h:asked1 ((p::ns)::rs)=true):∃x y:Nat,ns=[(x:Int),(y:Int)]/\rs=[]/\x<18446744073709551616/\y<18446744073709551616:=by
 have key:∃x y:Int,ns=[x,y]/\rs=[]/\natural x 64=true/\natural y 64=true:=by
  rcases hp with rfl|rfl|rfl|rfl|rfl<;>rcases ns with _|⟨x,_|⟨y,_|⟨z,ns⟩⟩⟩<;>rcases rs with _|⟨r,rs⟩<;>first
   |exact absurd (show false=true from h) (by decide)
   |(have h:(natural x 64&&natural y 64)=true:=h;rw[and_eq_true] at h;exact⟨_,_,rfl,rfl,h.1,h.2⟩)
 obtain⟨x,y,e1,e2,h1,h2⟩:=key;obtain⟨n,rfl,hn⟩:=Aj h1;obtain⟨k,rfl,O⟩:=Aj h2;exact⟨n,k,e1,e2,hn,O⟩
theorem Oc {p:Int}(hp:p=1\/p=10){ns:List Int}{rs:List (List Int)}(h:asked1 ((p::ns)::rs)=true):∃(x y:Nat) (l:List Nat),ns=[(x:Int),(y:Int)]/\rs=[l.map λn:Nat=>(n:Int)]/\x<18446744073709551616/\y<18446744073709551616/\l.length<=600/\∀z∈l,z<18446744073709551616:=by
 have key:∃(x y:Int) (l:List Int),ns=[x,y]/\rs=[l]/\natural x 64=true/\natural y 64=true/\(decide (l.length<=600)&&l.all (λ(z:Int)=>natural z 64))=true:=by
  rcases hp with rfl|rfl<;>rcases ns with _|⟨x,_|⟨y,_|⟨z,ns⟩⟩⟩<;>rcases rs with _|⟨r,_|⟨r2,rs⟩⟩<;>first
   |exact absurd (show false=true from h) (by decide)
   |(have h:(natural x 64&&(natural y 64&&(decide (r.length<=600)&&r.all (λ(z:Int)=>natural z 64))))=true:=h;rw[and_eq_true,and_eq_true] at h;exact⟨_,_,_,rfl,rfl,h.1,h.2.1,h.2.2⟩)
 obtain⟨x,y,l,e1,e2,h1,h2,h3⟩:=key;obtain⟨n,rfl,hn⟩:=Aj h1;obtain⟨k,rfl,O⟩:=Aj h2;obtain⟨hl,l',rfl,hl'⟩:=Ob h3;exact⟨n,k,l',e1,e2,hn,O,by simpa using hl,hl'⟩
theorem none_ {ns:List Int}{rs:List (List Int)}(h:asked1 ((2::ns)::rs)=true):ns=[]/\rs=[]:=by
 rcases ns with _|⟨x,ns⟩<;>rcases rs with _|⟨r,rs⟩<;>first
  |exact absurd (show false=true from h) (by decide)
  |exact⟨rfl,rfl⟩
theorem Od {p:Int}(hp:p=8\/p=9){ns:List Int}{rs:List (List Int)}(h:asked1 ((p::ns)::rs)=true):∃(l:List Nat),ns=[]/\rs=[l.map λn:Nat=>(n:Int)]/\l.length<=600/\∀z∈l,z<18446744073709551616:=by
 have key:∃(l:List Int),ns=[]/\rs=[l]/\(decide (l.length<=600)&&l.all (λ(z:Int)=>natural z 64))=true:=by
  rcases hp with rfl|rfl<;>rcases ns with _|⟨x,ns⟩<;>rcases rs with _|⟨r,_|⟨r2,rs⟩⟩<;>first
   |exact absurd (show false=true from h) (by decide)
   |exact⟨_,rfl,rfl,h⟩
 obtain⟨l,e1,e2,h3⟩:=key;obtain⟨hl,l',rfl,hl'⟩:=Ob h3;exact⟨l',e1,e2,by simpa using hl,hl'⟩
theorem Jz {p:Int}(hp:p=7\/p=11){ns:List Int}{rs:List (List Int)}(h:asked1 ((p::ns)::rs)=true):∃(l k:List Nat),ns=[]/\rs=[l.map λn:Nat=>(n:Int),k.map λn:Nat=>(n:Int)]/\l.length<=600/\k.length<=600/\(∀z∈l,z<18446744073709551616)/\∀z∈k,z<18446744073709551616:=by
 have key:∃(l k:List Int),ns=[]/\rs=[l,k]/\(decide (l.length<=600)&&l.all (λ(z:Int)=>natural z 64))=true/\(decide (k.length<=600)&&k.all (λ(z:Int)=>natural z 64))=true:=by
  rcases hp with rfl|rfl<;>rcases ns with _|⟨x,ns⟩<;>rcases rs with _|⟨r,_|⟨r2,_|⟨r3,rs⟩⟩⟩<;>first
   |exact absurd (show false=true from h) (by decide)
   |(have h':=(and_eq_true _ _).mp h;exact⟨_,_,rfl,rfl,h'.1,h'.2⟩)
 obtain⟨l,k,e1,e2,h3,h4⟩:=key;obtain⟨hl,l',rfl,hl'⟩:=Ob h3;obtain⟨O,k',rfl,hk'⟩:=Ob h4;exact⟨l',k',e1,e2,by simpa using hl,by simpa using O,hl',hk'⟩
theorem jV (l:List Nat):nats (l.map λn:Nat=>(n:Int))=l:=by
 unfold nats;rw[map_map];have:∀z∈l,(toNat∘λn:Nat=>(n:Int)) z=z:=λz y=>toNat_natCast z;rw[map_congr_left this];simp
end dj
namespace Len
open GridTalk
open GridTalkNeutral (shown asked1)
theorem gM (z:Int)(l:List Nat):(shown (told z l)).length=l.length+1:=by
 unfold shown told;simp
theorem iY (z:Int):(shown (number z)).length=1:=rfl
theorem Lf (A:Arith)(z:Int):(shown (wordTold A z)).length<=2:=by
 unfold wordTold;cases A.word z with
 |none=>rw[iY];lia
 |some w=>rw[gM];simp
theorem Cy (A:Arith)(x y:Nat)(f:Int->Int->Int):(shown (scalar A x y f)).length<=2:=by
 unfold scalar;split
 ·rw[iY];lia
 ·exact Lf A _
theorem Wm {A:Arith}{M:Mat}(h:Vl.WF A M):M.words.flatten.length<=256:=by
 obtain⟨l,hl,hw,_⟩:=h.ex;rw[hw,cZ.fu _ _ _ hl,hl];exact mul_le_mul h.r2 h.c2
theorem asks_len {S:State}{A:Arith}(hA:arith S.a S.m=some A)(hT:∀M∈S.table,Vl.TF M)(c:Call)(hc:∀x,c=.value x->∀z∈x,z<18446744073709551616):(shown (S.asks A c)).length<=300:=by
 unfold State.asks;cases c with
 |plus x y=>exact le_trans (Cy _ _ _ _) (by decide)
 |minus x y=>
  show(shown (if A.minus.isNone=true then _ else _)).length<=300;split
  ·rw[iY];lia
  ·exact le_trans (Cy _ _ _ _) (by decide)
 |times x y=>exact le_trans (Cy _ _ _ _) (by decide)
 |raise x e=>
  show(shown (if RAISE<e then _ else if A.number x=false then _ else _)).length<=300;split
  ·rw[iY];lia
  ·split
   ·rw[iY];lia
   ·exact le_trans (Lf _ _) (by decide)
 |dot l k=>
  show(shown (if l.length≠k.length then _ else if (l++k).all A.number=false then _ else _)).length<=300;split
  ·rw[iY];lia
  ·split
   ·rw[iY];lia
   ·exact le_trans (Lf _ _) (by decide)
 |judge x=>
  show(shown (match judged A S x with| .error z=>told z.1 [z.2]| .ok (_,z)=>told 0 [z.1,z.2])).length<=300
  split
  ·rw[gM];simp
  ·rw[gM];simp
 |value x=>
  show(shown (match judged A S x with| .error z=>told z.1 [z.2]| .ok (t,z)=>match works A S t with| .error w=>told w.1 [w.2]| .ok v=>told 0 (z.1::z.2::v.words.flatten))).length<=300
  split
  ·rw[gM];simp
  ·rename_i t z hj;split
   ·rw[gM];simp
   ·rename_i v hw;rw[gM,length_cons,length_cons];have hwf:Vl.WF A v:=by
     unfold judged at hj;cases e1:parse S.table.length x with
     |error p=>rw[e1] at hj;cases hj
     |ok t'=>
      simp only[e1] at hj;cases e2:t'.shape A.minus.isSome S.sizes with
      |error p=>simp only[e2] at hj;cases hj
      |ok z'=>
       simp only[e2] at hj;injection hj with hj;injection hj with hj1 hj2;subst hj1 hj2
       unfold works at hw;cases e3:t'.bad A S.table with
       |some p=>simp only[e3] at hw;cases hw
       |none=>
        simp only[e3] at hw;cases e4:t'.value A S.table with
        |error p=>simp only[e4] at hw;cases hw
        |ok v'=>
         simp only[e4] at hw;injection hw with hw;subst hw
         exact(Vl.wA hA hT t' z' v' (Vl.Cu e1) (Vl.vo (hc x rfl) e1) e3 e2 e4).2.2
    have:=Wm hwf;lia
 |entry x i j=>
  show(shown (match judged A S x with| .error z=>told z.1 [z.2]| .ok (t,z)=>if z.1<=i\/z.2<=j then number (-6) else match works A S t with| .error w=>told w.1 [w.2]| .ok v=>told 0 [v.at_ i j])).length<=300
  split
  ·rw[gM];simp
  ·split
   ·rw[iY];lia
   ·split
    ·rw[gM];simp
    ·rw[gM];simp
 |alike x y=>
  show(shown (alike A S x y)).length<=300;unfold alike;split
  ·rw[gM];simp
  ·split
   ·rw[gM];simp
   ·split
    ·rw[gM];simp
    ·split
     ·rw[gM];simp
     ·rw[gM];simp
     ·split
      ·rw[gM];simp
      ·rw[gM];simp
      ·split
       ·rw[gM];simp
       ·rw[iY];lia
 |_=>exact(by decide:1<=300)
theorem step_len {S:State}{A:Arith}(hA:arith S.a S.m=some A)(hT:∀M∈S.table,Vl.TF M)(c:Call)(hc:∀x,c=.value x->∀z∈x,z<18446744073709551616):(shown (GridTalk.step S c).2).length<=300:=by
 unfold GridTalk.step;cases c with
 |arithmetic a m=>
  show(shown (if (arith a m).isSome=true then _ else _:State×Answer).2).length<=300;split
  ·show(shown (number 0)).length<=300;rw[iY];lia
  ·show(shown (number (-1))).length<=300;rw[iY];lia
 |matrix r c l=>
  show(shown (if sized r=false\/sized c=false\/l.length≠r*c then _ else if TABLE<=S.table.length then _ else _:State×Answer).2).length<=300;split
  ·show(shown (number _)).length<=300;rw[iY];lia
  ·split
   ·show(shown (number _)).length<=300;rw[iY];lia
   ·show(shown (number _)).length<=300;rw[iY];lia
 |clear=>show(shown (number 0)).length<=300;rw[iY];lia
 |_=>simp only[hA];exact asks_len hA hT _ hc
theorem ans_len {S:State}(hA:(arith S.a S.m).isSome=true)(hT:∀M∈S.table,Vl.TF M){p:Int}{ns:List Int}{rs:List (List Int)}(hp:p=0\/p=1\/p=2\/p=3\/p=4\/p=5\/p=6\/p=7\/p=8\/p=9\/p=10\/p=11)(ha:asked1 ((p::ns)::rs)=true):(GridTalkNeutral.step S ((p::ns)::rs)).2.length<=300:=by
 obtain⟨A,hA⟩:=isSome_iff_exists.mp hA;have key:∀c,(∀x,c=.value x->∀z∈x,z<18446744073709551616)->(shown (GridTalk.step S c).2).length<=300:=λc hc=>step_len hA hT c hc;rcases hp with rfl|rfl|rfl|rfl|rfl|rfl|rfl|rfl|rfl|rfl|rfl|rfl
 ·obtain⟨x,y,rfl,rfl,_⟩:=dj.two (.inl rfl) ha;exact key _ λx h=>by cases h
 ·obtain⟨x,y,l,rfl,rfl,_⟩:=dj.Oc (.inl rfl) ha;exact key _ λx h=>by cases h
 ·obtain⟨rfl,rfl⟩:=dj.none_ ha;exact key _ λx h=>by cases h
 ·obtain⟨x,y,rfl,rfl,_⟩:=dj.two (.inr (.inl rfl)) ha;exact key _ λx h=>by cases h
 ·obtain⟨x,y,rfl,rfl,_⟩:=dj.two (.inr (.inr (.inl rfl))) ha;exact key _ λx h=>by cases h
 ·obtain⟨x,y,rfl,rfl,_⟩:=dj.two (.inr (.inr (.inr (.inl rfl)))) ha;exact key _ λx h=>by cases h
 ·obtain⟨x,y,rfl,rfl,_⟩:=dj.two (.inr (.inr (.inr (.inr rfl)))) ha;exact key _ λx h=>by cases h
 ·obtain⟨l,k,rfl,rfl,_⟩:=dj.Jz (.inl rfl) ha;exact key _ λx h=>by cases h
 ·obtain⟨l,rfl,rfl,_⟩:=dj.Od (.inl rfl) ha;exact key _ λx h=>by cases h
 ·obtain⟨l,rfl,rfl,_,hl⟩:=dj.Od (.inr rfl) ha;exact key _ λx h=>by
   injection h with h;rw[dj.jV] at h;subst h;exact hl
 ·obtain⟨x,y,l,rfl,rfl,_⟩:=dj.Oc (.inr rfl) ha;exact key _ λx h=>by cases h
 ·obtain⟨l,k,rfl,rfl,_⟩:=dj.Jz (.inr rfl) ha;exact key _ λx h=>by cases h
end Len
namespace Pq
open GridTalk Ps
def Cz (n:Nat):Nd->Prop
 | .leaf _=>True
 | .one _ i=>i<n
 | .two _ i j=>i<n/\j<n
theorem wD:∀(t:Tree) (n j:Nat) (s:Nat×Nd),(aV n t)[j]? =some s->Cz (n+j) s.2
 | .leaf p l,n,j,s,h=>by
  rw[aV] at h;cases j with
  |zero=>injection h with h;subst h;trivial
  |succ j=>cases h
 | .one p o x,n,j,s,h=>by
  rw[aV] at h;by_cases hj:j<(aV n x).length
  ·rw[getElem?_append_left hj] at h;exact wD x n j s h
  ·rw[getElem?_append_right (by lia)] at h;have h0:j-(aV n x).length=0:=by
    rcases Nat.eq_zero_or_pos (j-(aV n x).length) with e|e
    ·exact e
    ·rw[getElem?_eq_none (by simp;lia)] at h;cases h
   rw[h0] at h;injection h with h;subst h
   show n+(aV n x).length-1<n+j;have:=yu n x;lia
 | .two p o x y,n,j,s,h=>by
  rw[aV] at h;have:=yu n x;have:=yu (n+(aV n x).length) y;by_cases hj:j<(aV n x).length
  ·rw[getElem?_append_left (by rw[length_append];lia),getElem?_append_left hj] at h;exact wD x n j s h
  ·by_cases hj2:j<(aV n x).length+(aV (n+(aV n x).length) y).length
   ·rw[getElem?_append_left (by rw[length_append];lia),getElem?_append_right (by lia)] at h;have q:=wD y _ _ s h;have e:n+(aV n x).length+(j-(aV n x).length)=n+j:=by lia
    rw[e] at q;exact q
   ·rw[getElem?_append_right (by rw[length_append];lia)] at h;rw[length_append] at h;have h0:j-((aV n x).length+(aV (n+(aV n x).length) y).length)=0:=by
     rcases Nat.eq_zero_or_pos (j-((aV n x).length+(aV (n+(aV n x).length) y).length)) with e|e
     ·exact e
     ·rw[getElem?_eq_none (by simp;lia)] at h;cases h
    rw[h0] at h;injection h with h;subst h
    show n+(aV n x).length-1<n+j/\n+(aV n x).length+(aV (n+(aV n x).length) y).length-1<n+j;lia
def wF (T:Nat):Nd->Prop
 | .leaf (.table k)=>k<T
 | .leaf (.lit v)=>v<18446744073709551616
 |_=>True
theorem wG {T:Nat}:∀(t:Tree),Vl.Tree.su T t->Vl.Tree.lits t->∀n,∀s∈aV n t,wF T s.2
 | .leaf p l,h1,h2,n,s,hs=>by
  rw[aV] at hs;have e:s=(p,.leaf l):=by simpa using hs
  subst e;cases l with
  |table k=>exact h1
  |lit v=>exact h2
  |_=>trivial
 | .one p o x,h1,h2,n,s,hs=>by
  rw[aV,mem_append] at hs;rcases hs with hs|hs
  ·exact wG x h1 h2 n s hs
  ·have e:=mem_singleton.mp hs;subst e;trivial
 | .two p o x y,h1,h2,n,s,hs=>by
  rw[aV,mem_append,mem_append] at hs;rcases hs with(hs|hs)|hs
  ·exact wG x h1.1 h2.1 n s hs
  ·exact wG y h1.2 h2.2 _ s hs
  ·have e:=mem_singleton.mp hs;subst e;trivial
section
variable {β:Type}
theorem ZD {stp:List β->Nd->Option β}:∀{l:List (Nat×Nd)}{acc zs:List β},work stp l acc=.ok zs->zs.length=acc.length+l.length/\zs.take acc.length=acc/\∀j s,l[j]? =some s->∃z,stp (zs.take (acc.length+j)) s.2=some z/\zs[acc.length+j]? =some z
 |[],acc,zs,h=>by
  rw[work] at h;injection h with h;subst h
  exact⟨rfl,take_length,λj s h=>by cases h⟩
 |s::r,acc,zs,h=>by
  rw[work] at h;cases e:stp acc s.2 with
  |none=>rw[e] at h;cases h
  |some z=>
   rw[e] at h;obtain⟨h1,h2,h3⟩:=ZD (l:=r) (acc:=acc++[z]) h;rw[length_append] at h1 h2 h3;have h2':zs.take (acc.length+1)=acc++[z]:=h2;have hl:zs.length=acc.length+(s::r).length:=by rw[h1,length_cons];simp;lia
   have ht:zs.take acc.length=acc:=by
    have:=congrArg (List.take acc.length) h2';rw[List.take_take,Nat.min_eq_left (by lia)] at this;rw[this,List.take_left'];rfl
   refine⟨hl,ht,λj s' hj=>?_⟩;cases j with
   |zero=>
    injection hj with hj;subst hj;refine⟨z,by rw[Nat.add_zero,ht];exact e,?_⟩;have:=congrArg (λl=>l[acc.length]?) h2';simp at this;simpa using this
   |succ j=>
    obtain⟨z',g1,g2⟩:=h3 j s' hj;have e1:acc.length+[z].length+j=acc.length+(j+1):=by simp;lia
    rw[e1] at g1 g2;exact⟨z',g1,g2⟩
theorem RQ {stp:List β->Nd->Option β}{l:List (Nat×Nd)}{i:Nat}{s:Nat×Nd}{acc:List β}(h:l[i]? =some s):work stp (l.drop i) acc=match stp acc s.2 with
  |some z=>work stp (l.drop (i+1)) (acc++[z])
  |none=>.error s.1:=by
 have hi:i<l.length:=(List.getElem?_eq_some_iff.mp h).1;have e:l[i]=s:=(List.getElem?_eq_some_iff.mp h).2;rw[List.drop_eq_getElem_cons hi,e,work]
 try (cases stp acc s.2<;>rfl)
theorem find_cons {α:Type}{l:List α}{i:Nat}{s:α}(p:α->Bool)(h:l[i]? =some s):(l.drop i).find? p=if p s=true then some s else(l.drop (i+1)).find? p:=by
 have hi:i<l.length:=(List.getElem?_eq_some_iff.mp h).1;have e:l[i]=s:=(List.getElem?_eq_some_iff.mp h).2;rw[List.drop_eq_getElem_cons hi,e,find?_cons];cases p s<;>rfl
end
theorem oe_ok {β:Type}{o:Option β}{p:Nat}{z:β}(h:o=some z):oe o p=.ok z:=by rw[h];rfl
theorem nstp_sz {mi:Bool}{tab:List Mat}(hT:∀M∈tab,Vl.TF M){acc:List Size}(ha:∀s∈acc,Vl.kZ s){d:Nd}(hd:wF tab.length d){z:Size}(h:dN (pW (tab.map λ(x:Mat)=>(x.rows,x.cols))) (pB mi) (pC mi) acc d=some z):Vl.kZ z:=by
 cases d with
 |leaf l=>
  have h:pW (tab.map λ(x:Mat)=>(x.rows,x.cols)) l=some z:=h;cases l with
  |table k=>
   have O:k<tab.length:=hd;have h:some ((tab.map λ(x:Mat)=>(x.rows,x.cols)).getD k (0,0))=some z:=h;rw[Vl.tD tab O] at h;injection h with h;subst h
   have T:=hT _ (Vl.getD_mem tab O);exact⟨T.r1,T.r2,T.c1,T.c2⟩
  |zeros r c=>
   unfold pW at h;simp only at h;split at h
   ·rename_i q;injection h with h;subst h
    rw[and_eq_true,Vl.dY,Vl.dY] at q;exact⟨q.1.1,q.1.2,q.2.1,q.2.2⟩
   ·cases h
  |unit n=>
   unfold pW at h;simp only at h;split at h
   ·rename_i q;injection h with h;subst h
    rw[Vl.dY] at q;exact⟨q.1,q.2,q.1,q.2⟩
   ·cases h
  |lit v=>
   injection h with h;subst h;exact⟨by decide,by decide,by decide,by decide⟩
 |one o i=>
  unfold dN at h;simp only at h;cases e:acc[i]? with
  |none=>rw[e] at h;cases h
  |some u=>
   rw[e] at h;refine Vl.NK (minus:=mi) (p:=0) (o:=o) (ha u (mem_of_getElem? e)) ?_;rw[N5];exact oe_ok h
 |two o i j=>
  unfold dN at h;simp only at h;cases e:acc[i]? with
  |none=>rw[e] at h;simp at h
  |some u=>
   cases e2:acc[j]? with
   |none=>rw[e,e2] at h;simp at h
   |some v=>
    rw[e,e2] at h;refine Vl.NP (minus:=mi) (p:=0) (o:=o) (ha u (mem_of_getElem? e)) (ha v (mem_of_getElem? e2)) ?_;rw[N6];exact oe_ok h
end Pq
namespace Av
open GridTalk
theorem judged_ok {A:Arith}{S:State}{l:List Nat}{tr:Tree}{z:Size}(h:judged A S l=.ok (tr,z)):parse S.table.length l=.ok tr/\tr.shape A.minus.isSome S.sizes=.ok z:=by
 unfold judged at h;cases hp:parse S.table.length l with
 |error f=>rw[hp] at h;cases h
 |ok t=>
  rw[hp] at h;cases hs:t.shape A.minus.isSome S.sizes with
  |error f=>simp only[hs] at h;cases h
  |ok y=>
   simp only[hs] at h;injection h with h;injection h with h1 h2
   subst h1 h2;exact⟨rfl,hs⟩
theorem size_of {S:State}{A:Arith}(hA:arith S.a S.m=some A)(hT:∀M∈S.table,Vl.TF M){l:List Nat}(hl:∀x∈l,x<18446744073709551616){tr:Tree}{z:Size}{M:Mat}(hj:judged A S l=.ok (tr,z))(hb:tr.bad A S.table=none)(hv:tr.value A S.table=.ok M):M.rows=z.1/\M.cols=z.2/\Vl.WF A M:=by
 obtain⟨h1,h2⟩:=judged_ok hj;exact Vl.wA hA hT tr z M (Vl.Cu h1) (Vl.vo hl h1) hb h2 hv
section
variable {A:Arith}{S:State}{l k:List Nat}{tr tr2:Tree}{z z2:Size}{M M2:Mat}{c:Int}{f i j:Nat}
theorem v_err (hj:judged A S l=.error (c,f)):S.asks A (.value l)=told c [f]:=by simp only[State.asks,hj]
theorem v_bad (hj:judged A S l=.ok (tr,z))(hb:tr.bad A S.table=some f):S.asks A (.value l)=told (-7) [f]:=by simp only[State.asks,hj,works,hb]
theorem v_fit (hj:judged A S l=.ok (tr,z))(hb:tr.bad A S.table=none)(hv:tr.value A S.table=.error f):S.asks A (.value l)=told (-8) [f]:=by simp only[State.asks,hj,works,hb,hv]
theorem v_ok (hj:judged A S l=.ok (tr,z))(hb:tr.bad A S.table=none)(hv:tr.value A S.table=.ok M):S.asks A (.value l)=told 0 (z.1::z.2::M.words.flatten):=by simp only[State.asks,hj,works,hb,hv]
theorem e_err (hj:judged A S l=.error (c,f)):S.asks A (.entry l i j)=told c [f]:=by simp only[State.asks,hj]
theorem e_out (hj:judged A S l=.ok (tr,z))(ho:z.1<=i\/z.2<=j):S.asks A (.entry l i j)=number (-6):=by simp only[State.asks,hj];rw[if_pos ho]
theorem e_bad (hj:judged A S l=.ok (tr,z))(ho:¬(z.1<=i\/z.2<=j))(hb:tr.bad A S.table=some f):S.asks A (.entry l i j)=told (-7) [f]:=by simp only[State.asks,hj,works,hb];rw[if_neg ho]
theorem e_fit (hj:judged A S l=.ok (tr,z))(ho:¬(z.1<=i\/z.2<=j))(hb:tr.bad A S.table=none)(hv:tr.value A S.table=.error f):S.asks A (.entry l i j)=told (-8) [f]:=by simp only[State.asks,hj,works,hb,hv];rw[if_neg ho]
theorem e_ok (hj:judged A S l=.ok (tr,z))(ho:¬(z.1<=i\/z.2<=j))(hb:tr.bad A S.table=none)(hv:tr.value A S.table=.ok M):S.asks A (.entry l i j)=told 0 [M.at_ i j]:=by simp only[State.asks,hj,works,hb,hv];rw[if_neg ho]
theorem a_err (hj:judged A S l=.error (c,f)):S.asks A (.alike l k)=told c [f]:=by simp only[State.asks,alike,hj]
theorem a_err2 (hj:judged A S l=.ok (tr,z))(O:judged A S k=.error (c,f)):S.asks A (.alike l k)=told (c-16) [f]:=by simp only[State.asks,alike,hj,O]
theorem a_size (hj:judged A S l=.ok (tr,z))(O:judged A S k=.ok (tr2,z2))(h:¬(z.1=z2.1/\z.2=z2.2)):S.asks A (.alike l k)=told 0 [1,z.1,z.2]:=by
 simp only[State.asks,alike,hj,O];rw[if_pos];by_cases e:z.1=z2.1
 ·exact .inr λe2=>h ⟨e,e2⟩
 ·exact .inl e
variable (hj:judged A S l=.ok (tr,z))(O:judged A S k=.ok (tr2,z2))(h:z.1=z2.1/\z.2=z2.2)
include hj O h
theorem a_bad (hb:tr.bad A S.table=some f):S.asks A (.alike l k)=told (-7) [f]:=by
 simp only[State.asks,alike,hj,O,hb];rw[if_neg (by simp[h.1,h.2])]
theorem a_bad2 (hb:tr.bad A S.table=none)(hb2:tr2.bad A S.table=some f):S.asks A (.alike l k)=told (-23) [f]:=by
 simp only[State.asks,alike,hj,O,hb,hb2];rw[if_neg (by simp[h.1,h.2])]
theorem a_fit (hb:tr.bad A S.table=none)(hb2:tr2.bad A S.table=none)(hv:tr.value A S.table=.error f):S.asks A (.alike l k)=told (-8) [f]:=by
 simp only[State.asks,alike,hj,O,hb,hb2,hv];rw[if_neg (by simp[h.1,h.2])]
theorem a_fit2 (hb:tr.bad A S.table=none)(hb2:tr2.bad A S.table=none)(hv:tr.value A S.table=.ok M)(hv2:tr2.value A S.table=.error f):S.asks A (.alike l k)=told (-24) [f]:=by
 simp only[State.asks,alike,hj,O,hb,hb2,hv,hv2];rw[if_neg (by simp[h.1,h.2])]
theorem a_ok (hb:tr.bad A S.table=none)(hb2:tr2.bad A S.table=none)(hv:tr.value A S.table=.ok M)(hv2:tr2.value A S.table=.ok M2):S.asks A (.alike l k)=match firstDiff M M2 with
  |some d=>told 0 [0,d.1,d.2]
  |none=>number 1:=by
 simp only[State.asks,alike,hj,O,hb,hb2,hv,hv2];rw[if_neg (by simp[h.1,h.2])];cases firstDiff M M2<;>rfl
end
theorem at_eq {M:Mat}{l:List Nat}(h:M.words=rowsOf M.cols M.rows l){i j:Nat}(hi:i<M.rows)(hj:j<M.cols):M.at_ i j=l.getD (i*M.cols+j) 0:=by
 obtain⟨r,c,ws⟩:=M;have h:ws=rowsOf c r l:=h;subst h;exact cZ.vP r c l hi hj
theorem Wn {α β:Type}(f:α->β)(p:β->Bool):∀l:List α,(l.map f).find? p=(l.find? λx=>p (f x)).map f
 |[]=>rfl
 |x::l=>by
  rw[map_cons,find?_cons,find?_cons];cases p (f x) with
  |true=>rfl
  |false=>exact Wn f p l
theorem Oe {α:Type}{p q:α->Bool}:∀{l:List α},(∀x∈l,p x=q x)->l.find? p=l.find? q
 |[],_=>rfl
 |x::l,h=>by
  rw[find?_cons,find?_cons,h x (by simp),Oe λy hy=>h y (by simp[hy])]
theorem diff {u v:Mat}{lu lv:List Nat}(hu:u.words=rowsOf u.cols u.rows lu)(hv:v.words=rowsOf v.cols v.rows lv)(e1:v.rows=u.rows)(e2:v.cols=u.cols):firstDiff u v=((range (u.rows*u.cols)).find? λk=>lu.getD k 0 != lv.getD k 0).map λk=>(k/u.cols,k%u.cols):=by
 unfold firstDiff;rw[cZ.m7,Wn]
 congr 1
 refine Oe λk O=>?_;have O:=List.mem_range.mp O;have hc:0<u.cols:=by
  cases h:u.cols with
  |zero=>rw[h] at O;simp at O
  |succ n=>lia
 have h1:k/u.cols<u.rows:=(Nat.div_lt_iff_lt_mul hc).mpr O;have h2:k%u.cols<u.cols:=mod_lt _ hc;show(u.at_ (k/u.cols) (k%u.cols) != v.at_ (k/u.cols) (k%u.cols))=_;rw[at_eq hu h1 h2,at_eq hv (by rw[e1];exact h1) (by rw[e2];exact h2),e2];have e:k/u.cols*u.cols+k%u.cols=k:=Nat.div_add_mod' k u.cols;rw[e]
end Av
namespace L2
open PySem PySem.Spec PyProof.Rows
section
variable {K:Frag}{h:Heap}{mg:Str->Option Value}
theorem mk_int {x:Str}{n:Int}{t:Tok}(X:K.In h)(G:h.Ns mainGlobals mg)(a:nsIn K mainGlobals x=some (some (.int n t))):GI mg x n:=⟨t,mg_of X G a⟩
def BindsTo (m qual:Str)(st:Stmt)(ps:List Str):Prop:=∀(kV doc pm:Value) (an:Option Addr) (cdv ct:Value) (us:List Value),us.length=ps.length->bindArgs (fnOf m qual (gD st) (gk st) (bV st) .none kV doc pm an cdv ct) ⟨us,[]⟩=pure (ps.zip us)
theorem fP {α:Type}{l:List α}{n:Nat}(h:l.length=n+1):∃a t,l=a::t/\t.length=n:=by
 cases l with
 |nil=>cases h
 |cons a t=>exact⟨a,t,rfl,Nat.succ.inj h⟩
theorem bt0 {m qual:Str}{st:Stmt}(h:∀(kV doc pm:Value) (an:Option Addr) (cdv ct:Value),bindArgs (fnOf m qual (gD st) (gk st) (bV st) .none kV doc pm an cdv ct) ⟨[],[]⟩=pure []):BindsTo m qual st []:=by
 intro _ _ _ _ _ _ us hl;obtain rfl:=length_eq_zero_iff.mp hl;exact h ..
theorem bt1 {m qual:Str}{st:Stmt}{p0:Str}(h:∀(kV doc pm:Value) (an:Option Addr) (cdv ct:Value) (u0:Value),bindArgs (fnOf m qual (gD st) (gk st) (bV st) .none kV doc pm an cdv ct) ⟨[u0],[]⟩=pure [(p0,u0)]):BindsTo m qual st [p0]:=by
 intro _ _ _ _ _ _ us hl;obtain⟨_,us,rfl,e1⟩:=fP (n:=0) hl;obtain rfl:=length_eq_zero_iff.mp e1;exact h ..
theorem bt2 {m qual:Str}{st:Stmt}{p0 p1:Str}(h:∀(kV doc pm:Value) (an:Option Addr) (cdv ct:Value) (u0 u1:Value),bindArgs (fnOf m qual (gD st) (gk st) (bV st) .none kV doc pm an cdv ct) ⟨[u0,u1],[]⟩=pure [(p0,u0),(p1,u1)]):BindsTo m qual st [p0,p1]:=by
 intro _ _ _ _ _ _ us hl;obtain⟨_,us,rfl,e1⟩:=fP (n:=1) hl;obtain⟨_,us,rfl,e2⟩:=fP (n:=0) e1;obtain rfl:=length_eq_zero_iff.mp e2;exact h ..
theorem bt3 {m qual:Str}{st:Stmt}{p0 p1 p2:Str}(h:∀(kV doc pm:Value) (an:Option Addr) (cdv ct:Value) (u0 u1 u2:Value),bindArgs (fnOf m qual (gD st) (gk st) (bV st) .none kV doc pm an cdv ct) ⟨[u0,u1,u2],[]⟩=pure [(p0,u0),(p1,u1),(p2,u2)]):BindsTo m qual st [p0,p1,p2]:=by
 intro _ _ _ _ _ _ us hl;obtain⟨_,us,rfl,e1⟩:=fP (n:=2) hl;obtain⟨_,us,rfl,e2⟩:=fP (n:=1) e1;obtain⟨_,us,rfl,e3⟩:=fP (n:=0) e2;obtain rfl:=length_eq_zero_iff.mp e3;exact h ..
theorem bt4 {m qual:Str}{st:Stmt}{p0 p1 p2 p3:Str}(h:∀(kV doc pm:Value) (an:Option Addr) (cdv ct:Value) (u0 u1 u2 u3:Value),bindArgs (fnOf m qual (gD st) (gk st) (bV st) .none kV doc pm an cdv ct) ⟨[u0,u1,u2,u3],[]⟩=pure [(p0,u0),(p1,u1),(p2,u2),(p3,u3)]):BindsTo m qual st [p0,p1,p2,p3]:=by
 intro _ _ _ _ _ _ us hl;obtain⟨_,us,rfl,e1⟩:=fP (n:=3) hl;obtain⟨_,us,rfl,e2⟩:=fP (n:=2) e1;obtain⟨_,us,rfl,e3⟩:=fP (n:=1) e2;obtain⟨_,us,rfl,e4⟩:=fP (n:=0) e3;obtain rfl:=length_eq_zero_iff.mp e4;exact h ..
theorem bt5 {m qual:Str}{st:Stmt}{p0 p1 p2 p3 p4:Str}(h:∀(kV doc pm:Value) (an:Option Addr) (cdv ct:Value) (u0 u1 u2 u3 u4:Value),bindArgs (fnOf m qual (gD st) (gk st) (bV st) .none kV doc pm an cdv ct) ⟨[u0,u1,u2,u3,u4],[]⟩=pure [(p0,u0),(p1,u1),(p2,u2),(p3,u3),(p4,u4)]):BindsTo m qual st [p0,p1,p2,p3,p4]:=by
 intro _ _ _ _ _ _ us hl;obtain⟨_,us,rfl,e1⟩:=fP (n:=4) hl;obtain⟨_,us,rfl,e2⟩:=fP (n:=3) e1;obtain⟨_,us,rfl,e3⟩:=fP (n:=2) e2;obtain⟨_,us,rfl,e4⟩:=fP (n:=1) e3;obtain⟨_,us,rfl,e5⟩:=fP (n:=0) e4;obtain rfl:=length_eq_zero_iff.mp e5;exact h ..
theorem Og {x nm:Str}{f:Addr}{st:Stmt}{ps:List Str}{oc kV dc pm cd ct:Value}{od an:Option Addr}{sl:Array (Option Value)}(X:K.In h)(G:h.Ns mainGlobals mg)
  (a:nsIn K mainGlobals x=some (some (.ref f))) (l:K.lookup f=some ⟨oc,od,.func (fnOf nm nm (gD st) (gk st) (bV st) .none kV dc pm an cd ct),sl⟩) (c:codeIn K cd nm=true) (k:keepIn K (.ref f)=true)
  (hb:BindsTo nm nm st ps):FnA K mg x nm f st ps:=
 ⟨mg_of X G a,_,Gj l c k,λs us hl=>.of_eq (hb _ _ _ _ _ _ us hl)⟩
theorem JB {x:Str}{f:Addr}{st:Stmt}{ps:List Str}{oc kV dc pm cd ct:Value}{od an:Option Addr}{sl:Array (Option Value)}(X:K.In h)(G:h.Ns mainGlobals mg)
  (a:nsIn K mainGlobals x=some (some (.ref f))) (l:K.lookup f=some ⟨oc,od,.func (fnOf x x (gD st) (gk st) (bV st) .none kV dc pm an cd ct),sl⟩) (c:codeIn K cd x=true) (k:keepIn K (.ref f)=true)
  (hb:BindsTo x x st ps):FnT K mg x f st ps:=⟨(Og X G a l c k hb).1,(Og X G a l c k hb).2⟩
theorem mk_mt {C:Addr}{m qual:Str}{f:Addr}{st:Stmt}{ps:List Str}{oc kV dc pm cd ct:Value}{od an:Option Addr}{sl:Array (Option Value)}
  (a:findIn K (.ref C) m=some (some (.ref f))) (l:K.lookup f=some ⟨oc,od,.func (fnOf m qual (gD st) (gk st) (bV st) .none kV dc pm an cd ct),sl⟩) (c:codeIn K cd qual=true) (k:keepIn K (.ref f)=true) (i:isFn K (.ref f)=true)
  (hb:BindsTo m qual st ps):MtT K C m qual f st ps:=
 ⟨⟨a,i,k⟩,_,Gj l c k,(Gj l c k).binds hb⟩
theorem mk_in {x:Str}{C:Addr}{qual:Str}{f:Addr}{st:Stmt}{ps:List Str}{oc kV dc pm cd ct:Value}{od an:Option Addr}{sl:Array (Option Value)}(X:K.In h)(G:h.Ns mainGlobals mg)(g:nsIn K mainGlobals x=some (some (.ref C)))
  (a:findIn K (.ref C) "__init__"=some (some (.ref f))) (l:K.lookup f=some ⟨oc,od,.func (fnOf "__init__" qual (gD st) (gk st) (bV st) .none kV dc pm an cd ct),sl⟩) (c:codeIn K cd qual=true) (k:keepIn K (.ref f)=true) (i:isFn K (.ref f)=true)
  (mk:makesIn K C=true) (kc:keepIn K (.ref C)=true) (hb:BindsTo "__init__" qual st ps):Np K mg x C qual f st ps:=
 ⟨mg_of X G g,⟨mk,a,i,kc⟩,_,Gj l c k,(Gj l c k).binds hb⟩
theorem vnil:Vals [] []:=.nil
theorem vcons {x:V}{u:Value}{xs:List V}{us:List Value}(h:RelV x u)(t:Vals xs us):Vals (x::xs) (u::us):=.cons h t
theorem tup_of {t:Addr}{d:Option Addr}{its:List Value}{n:Nat}{sl:Array (Option Value)}{xs:List V}(l:K.lookup t=some ⟨.type "tuple",d,.seq its.toArray n,sl⟩)(v:Vals xs its)(z:xs.length<=1000):∀H:Hp,bR K H t xs:=
 λy=>.inr ⟨_,its.toArray,n,l,rfl,rfl,by rw[size_toArray, <-v.length];exact le_of_lt (cD z),v⟩
inductive RT:List (Int×V)->List DictEntry->Prop where
 |nil:RT [] []
 |cons {z:Int}{t:Tok}{v:V}{u:Value}{kvs:List (Int×V)}{es:List DictEntry}:RelV v u->hashInt z=z->RT kvs es->RT ((z,v)::kvs) (⟨z,.int z t,u⟩::es)
theorem RT.es {kvs:List (Int×V)}{es:List DictEntry}(h:RT kvs es):∃l:List (Int×Tok×Value),es=l.map (λz=>(⟨z.1,.int z.1 z.2.1,z.2.2⟩:DictEntry))/\Paired (λ(p:Int×V) (q:Int×Tok×Value)=>p.1=q.1/\RelV p.2 q.2.2/\hashInt q.1=q.1) kvs l:=by
 induction h with
 |nil=>exact⟨[],rfl,.nil⟩
 |cons r hh _ ih=>
  rename_i z t v u kvs es _;obtain⟨l,e,p⟩:=ih;exact⟨(z,t,u)::l,by rw[e];rfl,.cons ⟨rfl,r,hh⟩ p⟩
theorem kd_of {t:Addr}{kvs:List (Int×V)}{es:List DictEntry}{d:Nat}(l:K.lookup t=some ⟨.type "dict",none,.dict es.toArray d,#[]⟩)(sy:(t == sysModules)=false)(p:RT kvs es)(nd:(kvs.map (·.1)).Nodup):KD K t kvs:=by
 obtain⟨m,e,q⟩:=p.es;subst e;exact⟨⟨m,d,l,q⟩,nd,sy⟩
end
end L2
namespace GT
open PySem PySem.Spec PyProof.Rows L2
set_option hygiene false in
local macro_rules| `(tactic|simp_arith! [$ts,*])=> do let l:=("cx_K blk_K tLc_b iList iZip iRng1 iRng2 iRng3 iRev iEnum tKGet tKIn tOrG tSl3 tBestD Ge tBM0 wipe map cx_prog cx_w cx_mg cx_base cx_A tSeq tAsg pN tIfS tB tTest FP t2I qT tC tOp tUn tRet tRetN tNext tDrop Je Cg tCB tCallD tCallV Zj Vj tNot tAnd tOr tAndV tOrV tNotV tIf tFld_r sFld_r tMethD_r Vz tLst tTup tSl tPart Y7 L2.start true_and and_true map_cons map_nil length_cons List.length_nil replicate List.cons_append nil_append Nat.reduceAdd Nat.reduceSub List.set_cons_zero List.set_cons_succ List.getElem?_cons_zero List.getElem?_cons_succ x_ss x_ii x_i x_b x_l1 x_l2 rI0_ii rI_ii rU_i i_t i_f i_T i_F".splitOn " ").toArray.map (Lean.mkIdent ·.toName);`(tactic| (try dsimp only [$[$l:term],*]) <;> try simp only [$[$l:term],*,$ts,*])
local macro_rules| `(tactic|ac_rfl)=> `(tactic|simp_arith! [true_and])
local macro_rules| `(tactic|walk_at "p")=> `(tactic|exact⟨rfl,by first|exact Or.inl rfl|exact Or.inr (Or.inl rfl)|exact Or.inr (Or.inr rfl),by decide,by decide⟩)
local macro_rules| `(tactic|trivial)=> `(tactic|exact⟨rfl,rfl,rfl,by decide+kernel,rfl,by decide+kernel,by decide+kernel⟩)
noncomputable def aM (i:Nat):Stmt:=PySem.Challenge.pw_gridtalk_s01_answers.main.body.getD i (.Pass ⟨0,0,0,0⟩)
abbrev psOf (s:Stmt):List Str:=match s with| .FunctionDef _ a _ _ _ _ _ _ _ _=>a.args.map (·.arg)|_=>[]
abbrev Fz (K:Frag)(mg:Str->Option Value)(x:Str)(f:Addr)(s:Stmt):Prop:=FnT K mg x f s (psOf s)
abbrev Mz (K:Frag)(C:Addr)(m q:Str)(f:Addr)(s:Stmt):Prop:=MtT K C m q f s (psOf s)
abbrev bH (N:List Str)(n:Nat)(s:Stmt):Prop:=Jf N (N.take n) (bV s)
theorem d9:bH ["x","y","modulus","product","power"] 3 (aM 6):=by trivial
theorem gY:bH ["words","lanes","word"] 1 (aM 7):=by trivial
theorem rF:bH ["lanes","count","lane"] 2 (aM 8):=by trivial
theorem cB:bH ["row","lanes_of_rows","first_bits","modulus","total","power","entry","lanes"] 4 (aM 9):=by trivial
theorem dF:bH ["rows","other_rows","modulus","width","lanes_of_rows","first_bits","entries","row","total"] 3 (aM 10):=by trivial
theorem Gz:bH ["self","kind","modulus"] 3 (cu (aM 17) 0):=by trivial
theorem Wo:bH ["x","y"] 2 (aM 18):=by trivial
theorem Ey:bH ["x","y"] 2 (aM 19):=by trivial
theorem Lg:bH ["x","y"] 2 (aM 20):=by trivial
theorem sc_lesser:bH ["x","y"] 2 (aM 21):=by trivial
theorem sc_greater:bH ["x","y"] 2 (aM 22):=by trivial
theorem sc_either:bH ["x","y"] 2 (aM 23):=by trivial
theorem sc_both:bH ["x","y"] 2 (aM 24):=by trivial
theorem Yy:bH ["x","y"] 2 (aM 25):=by trivial
theorem Tq:bH ["meanings"] 1 (aM 26):=by trivial
theorem Oh:bH ["meanings"] 1 (aM 27):=by trivial
theorem GC:bH ["meanings"] 1 (aM 28):=by trivial
theorem nQ:bH ["meanings","total","meaning"] 1 (aM 29):=by trivial
theorem nU:bH ["meanings","total","meaning"] 1 (aM 30):=by trivial
theorem Lh:bH ["kind","modulus"] 2 (aM 37):=by trivial
theorem Tr:bH ["arithmetic","word"] 2 (aM 38):=by trivial
theorem rG:bH ["arithmetic","words","word"] 2 (aM 39):=by trivial
theorem Tt:bH ["arithmetic","word"] 2 (aM 40):=by trivial
theorem rH:bH ["arithmetic","words","word"] 2 (aM 41):=by trivial
theorem sc_word_of:bH ["arithmetic","meaning"] 2 (aM 42):=by trivial
theorem zE:bH ["arithmetic","meanings","words","meaning"] 2 (aM 43):=by trivial
theorem Qm:bH ["arithmetic"] 1 (aM 44):=by trivial
theorem sc_plus:bH ["arithmetic","x","y"] 3 (aM 45):=by trivial
theorem sc_sum_of:bH ["arithmetic","meanings"] 2 (aM 46):=by trivial
theorem sc_times:bH ["arithmetic","x","y"] 3 (aM 47):=by trivial
theorem dG:bH ["arithmetic","xs","ys","kind","x","y"] 3 (aM 48):=by trivial
theorem Wq:bH ["arithmetic"] 1 (aM 49):=by trivial
theorem sc_minus:bH ["arithmetic","x","y"] 3 (aM 50):=by trivial
theorem sc_none_of:bH ["arithmetic"] 1 (aM 51):=by trivial
theorem sc_one_of:bH ["arithmetic"] 1 (aM 52):=by trivial
theorem Wr:bH ["self","height","width","entries"] 4 (cu (aM 54) 0):=by trivial
theorem Oi:bH ["arithmetic","grid","words"] 2 (aM 55):=by trivial
theorem sc_row_of:bH ["grid","row"] 2 (aM 56):=by trivial
theorem CG:bH ["grid","row"] 1 (aM 57):=by trivial
theorem uD:bH ["grid","column"] 1 (aM 58):=by trivial
theorem Qn:bH ["grid"] 1 (aM 59):=by trivial
theorem JC:bH ["arithmetic","xs","ys","x","y"] 3 (aM 60):=by trivial
theorem wH:bH ["arithmetic","factor","meanings","meaning"] 3 (aM 61):=by trivial
theorem sc_nones:bH ["arithmetic","given","grids"] 3 (aM 62):=by trivial
theorem yx:bH ["arithmetic","size","row"] 2 (aM 63):=by trivial
theorem sc_ones:bH ["arithmetic","given","grids"] 3 (aM 64):=by trivial
theorem Ws:bH ["arithmetic","grid"] 2 (aM 65):=by trivial
theorem sc_single:bH ["arithmetic","given","grids"] 3 (aM 66):=by trivial
theorem GD:bH ["arithmetic","given","grids","entries","column"] 3 (aM 67):=by trivial
theorem sc_trace:bH ["arithmetic","given","grids"] 3 (aM 68):=by trivial
theorem eE:bH ["arithmetic","x","y","columns","entries","row","column"] 3 (aM 69):=by trivial
theorem GF:bH ["arithmetic","x","y"] 3 (aM 70):=by trivial
theorem gB:bH ["arithmetic","x","exponent","result"] 3 (aM 71):=by trivial
theorem gZ:bH ["arithmetic","x","exponent","result","count"] 3 (aM 72):=by trivial
theorem Li:bH ["arithmetic","given","grids","result"] 3 (aM 73):=by trivial
theorem jW:bH ["arithmetic","given","grids","x","identity","result","count","entries"] 3 (aM 74):=by trivial
theorem oH:bH ["members","column","other"] 2 (aM 75):=by trivial
theorem rJ:bH ["arithmetic","row","members","minors","even","odd","column","entry","part"] 4 (aM 76):=by trivial
theorem jJ:bH ["arithmetic","given","grids","rows","minors","members","row"] 3 (aM 77):=by trivial
theorem Wt:bH ["arithmetic","given","grids","entries","row"] 3 (aM 78):=by trivial
theorem zF:bH ["arithmetic","given","grids"] 3 (aM 79):=by trivial
theorem gq:bH ["arithmetic","given","grids","x","y"] 3 (aM 80):=by trivial
theorem sc_product:bH ["arithmetic","given","grids"] 3 (aM 81):=by trivial
theorem gA:bH ["arithmetic","given","grids","x","y"] 3 (aM 82):=by trivial
theorem tG:bH ["arithmetic","given","grids","entries","row","other_row","factor"] 3 (aM 83):=by trivial
theorem yC:bH ["arithmetic","given","grids","entries","row","other_row"] 3 (aM 84):=by trivial
theorem sc_below:bH ["arithmetic","given","grids"] 3 (aM 85):=by trivial
theorem Yz:bH ["arithmetic","given","grids"] 3 (aM 86):=by trivial
theorem pF:bH ["number","arithmetic","given","grids","size","entries"] 5 (aM 88):=by trivial
theorem sc_is_side:bH ["length"] 1 (aM 103):=by trivial
theorem Wu:bH ["size"] 1 (aM 104):=by trivial
theorem sc_size_if:bH ["is_as_asked","size"] 2 (aM 105):=by trivial
theorem Lj:bH ["arithmetic","given","sizes"] 3 (aM 106):=by trivial
theorem Oj:bH ["arithmetic","given","sizes"] 3 (aM 107):=by trivial
theorem JQ:bH ["arithmetic","given","sizes"] 3 (aM 108):=by trivial
theorem JR:bH ["arithmetic","given","sizes"] 3 (aM 109):=by trivial
theorem Lk:bH ["arithmetic","given","sizes"] 3 (aM 110):=by trivial
theorem Lp:bH ["arithmetic","given","sizes"] 3 (aM 111):=by trivial
theorem GJ:bH ["arithmetic","given","sizes"] 3 (aM 112):=by trivial
theorem m9:bH ["arithmetic","given","sizes","is_as_asked"] 3 (aM 113):=by trivial
theorem Tv:bH ["first","count","length"] 3 (aM 114):=by trivial
theorem rK:bH ["arithmetic","given","sizes","has_rows","has_columns"] 3 (aM 115):=by trivial
theorem zG:bH ["arithmetic","given","sizes"] 3 (aM 116):=by trivial
theorem Ak:bH ["arithmetic","given","sizes"] 3 (aM 117):=by trivial
theorem GK:bH ["arithmetic","given","sizes"] 3 (aM 118):=by trivial
theorem uU:bH ["arithmetic","given","sizes","size"] 3 (aM 119):=by trivial
theorem uV:bH ["arithmetic","given","sizes","width"] 3 (aM 120):=by trivial
theorem wI:bH ["arithmetic","given","sizes","height"] 3 (aM 121):=by trivial
theorem Ez:bH ["arithmetic","given","sizes"] 3 (aM 122):=by trivial
theorem CJ:bH ["number","arithmetic","given","sizes"] 4 (aM 124):=by trivial
theorem Wv:bH ["self","number","place","given"] 4 (cu (aM 131) 0):=by trivial
theorem wJ:bH ["number"] 1 (aM 132):=by trivial
theorem JT:bH ["number"] 1 (aM 134):=by trivial
theorem CK:bH ["number"] 1 (aM 135):=by trivial
theorem JV:bH ["number","matrices","around"] 3 (aM 136):=by trivial
theorem Al:bH ["waiting","steps"] 2 (aM 137):=by trivial
theorem j7:bH ["numbers","matrices","steps","place","waiting","behind"] 3 (aM 138):=by trivial
theorem GP:bH ["self","arithmetic","table","numbers"] 4 (cu (aM 139) 0):=by trivial
theorem jd:bH ["self","fault","step","size"] 1 (cu (aM 139) 1):=by trivial
theorem fL:bH ["self","step","matrix","sizes","operand"] 2 (cu (aM 139) 2):=by trivial
theorem jP:bH ["self","step"] 1 (cu (aM 139) 3):=by trivial
theorem tH:bH ["self","step"] 2 (cu (aM 139) 4):=by trivial
theorem gH:bH ["self","step","size","grid"] 1 (cu (aM 139) 5):=by trivial
theorem gO:bH ["self","step","size","grids","operand"] 3 (cu (aM 139) 6):=by trivial
theorem GQ:bH ["self"] 1 (cu (aM 139) 7):=by trivial
theorem EY:bH ["self"] 1 (cu (aM 139) 8):=by trivial
theorem Tw:bH ["self"] 1 (cu (aM 147) 0):=by trivial
theorem Qo:bH ["self","calls"] 2 (cu (aM 148) 0):=by trivial
theorem CN:bH ["self"] 1 (cu (aM 148) 1):=by trivial
theorem Am:bH ["self"] 1 (cu (aM 148) 2):=by trivial
theorem GR:bH ["self","length"] 2 (cu (aM 148) 3):=by trivial
theorem uE:bH ["self"] 1 (cu (aM 148) 4):=by trivial
theorem GX:bH ["board","numbers","rows"] 3 (aM 149):=by trivial
theorem GZ:bH ["height","width","entries"] 3 (aM 150):=by trivial
theorem Qp:bH ["board","numbers","rows"] 3 (aM 152):=by trivial
theorem Tz:bH ["board","numbers","rows"] 3 (aM 153):=by trivial
theorem uW:bH ["arithmetic","meaning","word"] 2 (aM 154):=by trivial
theorem lg:bH ["arithmetic","operation","words","x","y"] 3 (aM 155):=by trivial
theorem Ww:bH ["board","numbers","rows"] 3 (aM 156):=by trivial
theorem TJ:bH ["board","numbers","rows"] 3 (aM 157):=by trivial
theorem TQ:bH ["board","numbers","rows"] 3 (aM 158):=by trivial
theorem j8:bH ["board","numbers","rows","x","result","count"] 3 (aM 159):=by trivial
theorem zH:bH ["board","numbers","rows","xs","ys"] 3 (aM 160):=by trivial
theorem Lq:bH ["board","numbers"] 2 (aM 161):=by trivial
theorem Ec:bH ["board","numbers","rows","x"] 3 (aM 162):=by trivial
theorem uF:bH ["board","numbers","rows","x","refusal"] 3 (aM 163):=by trivial
theorem Lr:bH ["size","row","column"] 3 (aM 164):=by trivial
theorem uG:bH ["board","numbers","rows","x","refusal"] 3 (aM 165):=by trivial
theorem JW:bH ["refusal"] 1 (aM 166):=by trivial
theorem yD:bH ["words","other_words","width","place"] 3 (aM 167):=by trivial
theorem jf:bH ["board","numbers","rows","x","y","refusal"] 3 (aM 168):=by trivial
theorem lZ:bH ["board","reader","form","numbers","rows"] 2 (aM 170):=by trivial
theorem pX:bH ["calls","board","reader","answered","answer"] 1 (aM 171):=by trivial
set_option genInjectivity false in
set_option genSizeOf false in
structure Ad where
 (fJ kh kj aZ jg cG pY pZ Ed jK uX JX kO gP jm CP G3 Ls f_both mj lJ rO mO wK p7 yE G4 Ef G5 Eh RV Ol Ei Wx Wy Qq uY KH Qs RX Wz YB RZ WD R0 G6 Ej f_sums KJ f_nones Ao WK KN Lx Ly f_trace p8 uZ tK qb Qt G7 yF ZF uH f_cut jL jy G8 jz f_blocks Lz Qu CQ qd R3 KQ R4 qe rP oJ oK qg qj mQ jM G9 uI g8 jX mR oM oN ql lK qM YC mG wL qN wM qp Hf JZ Hg vD uJ uK Aq uL J0 Hh WL TV Fb CT J1 vG mU u5 uM wN wO tL zJ wQ wR wV CV yG wW wX yH wY wZ Aw xg Ek Hi t_PLUS t_SUMS ZG ZJ t_NONE t_ONE CW CZ Dc Dd Df Dg Dh Di Dj Dk Dl Dm Dn Dq Dr Ds Du R5 R6 R7 R8 R9 Sd Sg Sh Ss Sv Om Oo Qv Hj ZK ZL:Addr)
structure aU (K:Frag)(mg:Str->Option Value)(a:Ad):Prop where
 rQ:GI mg "BITS_OF_A_WORD" (64)
 JD:GI mg "WORDS" (18446744073709551616)
 nY:GI mg "HALF_OF_WORDS" (9223372036854775808)
 Hl:GI mg "LAST_WORD" (18446744073709551615)
 Ax:GI mg "BITS_OF_A_LANE" (65)
 WRAPPING:GI mg "WRAPPING" (0)
 Qw:GI mg "MODULAR" (1)
 WM:GI mg "SIGNED" (2)
 WAYS:GI mg "WAYS" (3)
 nA:GI mg "POLYNOMIALS" (7)
 Qx:GI mg "DONE" (0)
 Ho:GI mg "NO_SUCH_ARITHMETIC" (-1)
 NO_MATRIX:GI mg "NO_MATRIX" (-2)
 TX:GI mg "NO_EXPRESSION" (-3)
 Hq:GI mg "NOT_AS_ASKED" (-4)
 TY:GI mg "TABLE_IS_FULL" (-5)
 uN:GI mg "OUT_OF_BOUNDS" (-6)
 yI:GI mg "NO_NUMBER" (-7)
 Hr:GI mg "DOES_NOT_FIT" (-8)
 SECOND:GI mg "SECOND" (16)
 WQ:GI mg "LARGEST_SIDE" (16)
 T3:GI mg "LARGEST_POWER" (64)
 Fe:GI mg "LARGEST_DETERMINANT" (6)
 Hs:GI mg "MOST_NUMBERS" (512)
 Fg:GI mg "MOST_IN_ONE_ANOTHER" (32)
 Fi:GI mg "FIRST_WITH_OPERANDS" (32)
 YD:GI mg "SINGLE_WORD" (18)
 T4:GI mg "MOST_MATRICES" (16)
 J2:GI mg "MOST_TIMES_ITSELF" (1000)
 ALIKE:GI mg "ALIKE" (1)
 Sw:GI mg "NOT_ALIKE" (0)
 Qy:GI mg "ENTRIES_DIFFER" (0)
 WR:GI mg "SIZES_DIFFER" (1)
 fX:mg "len"=none
 b_min:mg "min"=none
 b_max:mg "max"=none
 kW:mg "range"=none
 b_reversed:mg "reversed"=none
 WT:mg "list"=none
 yJ:mg "zip"=none
 YF:mg "enumerate"=none
 b_sum:mg "sum"=none
 b_all:mg "all"=none
 OPERATIONS:mg "OPERATIONS"=some (.ref a.Hj)
 cH:KD K a.Hj [(16,V.ref a.f_nones),(17,V.ref a.WK),(18,V.ref a.Lx),(32,V.ref a.Ly),(33,V.ref a.f_trace),(34,V.ref a.Qt),(35,V.ref a.G7),(36,V.ref a.uH),(37,V.ref a.f_cut),(48,V.ref a.jL),(49,V.ref a.jy),(50,V.ref a.G8),(51,V.ref a.jz),(52,V.ref a.f_blocks),(53,V.ref a.Lz),(54,V.ref a.Qu),(55,V.ref a.CQ)]
 SIZES:mg "SIZES"=some (.ref a.ZK)
 fV:KD K a.ZK [(16,V.ref a.qe),(17,V.ref a.rP),(18,V.ref a.oJ),(32,V.ref a.oK),(33,V.ref a.qg),(34,V.ref a.qj),(35,V.ref a.mQ),(36,V.ref a.jM),(37,V.ref a.uI),(48,V.ref a.g8),(49,V.ref a.jX),(50,V.ref a.mR),(51,V.ref a.g8),(52,V.ref a.oM),(53,V.ref a.oN),(54,V.ref a.ql),(55,V.ref a.lK)]
 FORMS:mg "FORMS"=some (.ref a.ZL)
 JF:KD K a.ZL [(16,V.ref a.CW),(17,V.ref a.CZ),(18,V.ref a.Dc),(32,V.ref a.Dd),(33,V.ref a.Df),(34,V.ref a.Dg),(35,V.ref a.Dh),(36,V.ref a.Di),(37,V.ref a.Dj),(48,V.ref a.Dk),(49,V.ref a.Dl),(50,V.ref a.Dm),(51,V.ref a.Dn),(52,V.ref a.Dq),(53,V.ref a.Dr),(54,V.ref a.Ds),(55,V.ref a.Du)]
 CALLS:mg "CALLS"=some (.ref a.Qv)
 jh:∀H:Hp,bR K H a.Qv [V.ref a.R5,V.ref a.R6,V.ref a.R7,V.ref a.R8,V.ref a.R9,V.ref a.Sd,V.ref a.Sg,V.ref a.Sh,V.ref a.Ss,V.ref a.Sv,V.ref a.Om,V.ref a.Oo]
 s_CALLS_11:∀H:Hp,bR K H a.Oo [V.int 0,V.int 2,V.ref a.xg]
 s_CALLS_10:∀H:Hp,bR K H a.Om [V.int 2,V.int 1,V.ref a.wY]
 s_CALLS_9:∀H:Hp,bR K H a.Sv [V.int 0,V.int 1,V.ref a.wX]
 s_CALLS_8:∀H:Hp,bR K H a.Ss [V.int 0,V.int 1,V.ref a.wW]
 s_CALLS_7:∀H:Hp,bR K H a.Sh [V.int 0,V.int 2,V.ref a.CV]
 s_CALLS_6:∀H:Hp,bR K H a.Sg [V.int 2,V.int 0,V.ref a.wV]
 s_CALLS_5:∀H:Hp,bR K H a.Sd [V.int 2,V.int 0,V.ref a.wR]
 s_CALLS_4:∀H:Hp,bR K H a.R9 [V.int 2,V.int 0,V.ref a.wQ]
 s_CALLS_3:∀H:Hp,bR K H a.R8 [V.int 2,V.int 0,V.ref a.zJ]
 s_CALLS_2:∀H:Hp,bR K H a.R7 [V.int 0,V.int 0,V.ref a.wN]
 s_CALLS_1:∀H:Hp,bR K H a.R6 [V.int 2,V.int 1,V.ref a.uM]
 s_CALLS_0:∀H:Hp,bR K H a.R5 [V.int 2,V.int 0,V.ref a.mU]
 s_FORMS_55:∀H:Hp,bR K H a.Du [V.int 0,V.int 2]
 s_FORMS_54:∀H:Hp,bR K H a.Ds [V.int 0,V.int 2]
 s_FORMS_53:∀H:Hp,bR K H a.Dr [V.int 0,V.int 2]
 s_FORMS_52:∀H:Hp,bR K H a.Dq [V.int 0,V.int 2]
 s_FORMS_51:∀H:Hp,bR K H a.Dn [V.int 0,V.int 2]
 s_FORMS_50:∀H:Hp,bR K H a.Dm [V.int 0,V.int 2]
 s_FORMS_49:∀H:Hp,bR K H a.Dl [V.int 0,V.int 2]
 s_FORMS_48:∀H:Hp,bR K H a.Dk [V.int 0,V.int 2]
 s_FORMS_37:∀H:Hp,bR K H a.Dj [V.int 4,V.int 1]
 s_FORMS_36:∀H:Hp,bR K H a.Di [V.int 0,V.int 1]
 s_FORMS_35:∀H:Hp,bR K H a.Dh [V.int 0,V.int 1]
 s_FORMS_34:∀H:Hp,bR K H a.Dg [V.int 1,V.int 1]
 s_FORMS_33:∀H:Hp,bR K H a.Df [V.int 0,V.int 1]
 s_FORMS_32:∀H:Hp,bR K H a.Dd [V.int 0,V.int 1]
 s_FORMS_18:∀H:Hp,bR K H a.Dc [V.int 1,V.int 0]
 s_FORMS_17:∀H:Hp,bR K H a.CZ [V.int 1,V.int 0]
 s_FORMS_16:∀H:Hp,bR K H a.CW [V.int 2,V.int 0]
 ONE:mg "ONE"=some (.ref a.t_ONE)
 s_ONE:∀H:Hp,bR K H a.t_ONE [V.int 1,V.int 1,V.int 1,V.int 0,V.int 18446744073709551615,V.int 18446744073709551615,V.int 18446744073709551615,V.int 1]
 NONE:mg "NONE"=some (.ref a.t_NONE)
 s_NONE:∀H:Hp,bR K H a.t_NONE [V.int 0,V.int 0,V.int 0,V.int 18446744073709551615,V.int 0,V.int 0,V.int 0,V.int 0]
 MINUS:mg "MINUS"=some (.ref a.ZJ)
 vQ:∀H:Hp,bR K H a.ZJ [V.ref a.gP,V.ref a.gP,V.ref a.gP,V.non,V.non,V.non,V.ref a.mj,V.ref a.mj]
 TIMES:mg "TIMES"=some (.ref a.ZG)
 iu:∀H:Hp,bR K H a.ZG [V.ref a.jm,V.ref a.jm,V.ref a.jm,V.ref a.kO,V.ref a.CP,V.ref a.f_both,V.ref a.f_both]
 SUMS:mg "SUMS"=some (.ref a.t_SUMS)
 tM:∀H:Hp,bR K H a.t_SUMS [V.ref a.lJ,V.ref a.lJ,V.ref a.lJ,V.ref a.rO,V.ref a.mO,V.ref a.wK,V.ref a.p7,V.ref a.p7]
 PLUS:mg "PLUS"=some (.ref a.t_PLUS)
 tO:∀H:Hp,bR K H a.t_PLUS [V.ref a.kO,V.ref a.kO,V.ref a.kO,V.ref a.CP,V.ref a.G3,V.ref a.Ls,V.ref a.mj,V.ref a.mj]
 g_Arithmetic:mg "Arithmetic"=some (.ref a.fJ)
 nZ:Cls K a.fJ
 u6:cR K a.fJ "kind"
 qt:cR K a.fJ "modulus"
 g_Grid:mg "Grid"=some (.ref a.kh)
 vR:Cls K a.kh
 El:cR K a.kh "height"
 Ht:cR K a.kh "width"
 Ay:cR K a.kh "entries"
 g_Step:mg "Step"=some (.ref a.kj)
 pG:Cls K a.kj
 Em:cR K a.kj "number"
 Hu:cR K a.kj "place"
 Hv:cR K a.kj "given"
 yK:cR K a.kj "operands"
 g_Expression:mg "Expression"=some (.ref a.aZ)
 bZ:Cls K a.aZ
 mH:cR K a.aZ "arithmetic"
 tQ:cR K a.aZ "table"
 qu:cR K a.aZ "numbers"
 tR:cR K a.aZ "steps"
 tU:cR K a.aZ "sizes"
 tV:cR K a.aZ "grids"
 g_Board:mg "Board"=some (.ref a.jg)
 jY:Cls K a.jg
 gQ:cR K a.jg "arithmetic"
 oh:cR K a.jg "table"
 g_Reader:mg "Reader"=some (.ref a.cG)
 iM:Cls K a.cG
 Az:cR K a.cG "calls"
 mq:cR K a.cG "place"
 Ba:Fz K mg "polynomial_product" a.pY (aM 6)
 Bb:Fz K mg "beside_one_another" a.pZ (aM 7)
 Qz:Fz K mg "taken_apart" a.Ed (aM 8)
 qK:Fz K mg "sum_of_polynomial_products" a.jK (aM 9)
 Hw:Fz K mg "product_of_rows" a.uX (aM 10)
 Hx:Np K mg "Arithmetic" a.fJ "Arithmetic.__init__" a.JX (cu (aM 17) 0) ["self","kind","modulus"]
 WW:Fz K mg "whole_sum" a.kO (aM 18)
 Fj:Fz K mg "whole_difference" a.gP (aM 19)
 LC:Fz K mg "whole_product" a.jm (aM 20)
 fn_lesser:Fz K mg "lesser" a.CP (aM 21)
 fn_greater:Fz K mg "greater" a.G3 (aM 22)
 fn_either:Fz K mg "either" a.Ls (aM 23)
 fn_both:Fz K mg "both" a.f_both (aM 24)
 YG:Fz K mg "just_one" a.mj (aM 25)
 T5:Fz K mg "sum_of_all" a.lJ (aM 26)
 Oq:Fz K mg "least_of_all" a.rO (aM 27)
 Hy:Fz K mg "greatest_of_all" a.mO (aM 28)
 T6:Fz K mg "any_of_all" a.wK (aM 29)
 T7:Fz K mg "odd_of_all" a.p7 (aM 30)
 LK:Fz K mg "is_arithmetic" a.yE (aM 37)
 T8:Fz K mg "has_number" a.G4 (aM 38)
 QB:Fz K mg "are_numbers" a.Ef (aM 39)
 T9:Fz K mg "meaning_of" a.G5 (aM 40)
 QC:Fz K mg "meanings_of" a.Eh (aM 41)
 fn_word_of:Fz K mg "word_of" a.RV (aM 42)
 YH:Fz K mg "words_of" a.Ol (aM 43)
 QD:Fz K mg "always_fits" a.Ei (aM 44)
 fn_plus:Fz K mg "plus" a.Wx (aM 45)
 fn_sum_of:Fz K mg "sum_of" a.Wy (aM 46)
 fn_times:Fz K mg "times" a.Qq (aM 47)
 Hz:Fz K mg "sum_of_products" a.uY (aM 48)
 WX:Fz K mg "has_minus" a.KH (aM 49)
 fn_minus:Fz K mg "minus" a.Qs (aM 50)
 fn_none_of:Fz K mg "none_of" a.RX (aM 51)
 fn_one_of:Fz K mg "one_of" a.Wz (aM 52)
 WY:Np K mg "Grid" a.kh "Grid.__init__" a.YB (cu (aM 54) 0) ["self","height","width","entries"]
 fn_settled:Fz K mg "settled" a.RZ (aM 55)
 fn_row_of:Fz K mg "row_of" a.WD (aM 56)
 fn_rows_of:Fz K mg "rows_of" a.R0 (aM 57)
 Ua:Fz K mg "columns_of" a.G6 (aM 58)
 QF:Fz K mg "diagonal_of" a.Ej (aM 59)
 fn_sums:Fz K mg "sums" a.f_sums (aM 60)
 W0:Fz K mg "multiples" a.KJ (aM 61)
 fn_nones:Fz K mg "nones" a.f_nones (aM 62)
 Ot:Fz K mg "ones_by_size" a.Ao (aM 63)
 fn_ones:Fz K mg "ones" a.WK (aM 64)
 W2:Fz K mg "ones_like" a.KN (aM 65)
 fn_single:Fz K mg "single" a.Lx (aM 66)
 fn_turned:Fz K mg "turned" a.Ly (aM 67)
 fn_trace:Fz K mg "trace" a.f_trace (aM 68)
 Bc:Fz K mg "entries_of_product" a.p8 (aM 69)
 HB:Fz K mg "settled_product" a.uZ (aM 70)
 Fl:Fz K mg "power_by_squares" a.tK (aM 71)
 Bd:Fz K mg "power_step_by_step" a.qb (aM 72)
 fn_power:Fz K mg "power" a.Qt (aM 73)
 fn_closure:Fz K mg "closure" a.G7 (aM 74)
 LQ:Fz K mg "members_above" a.yF (aM 75)
 fn_minor:Fz K mg "minor" a.ZF (aM 76)
 QG:Fz K mg "determinant" a.uH (aM 77)
 fn_cut:Fz K mg "cut" a.f_cut (aM 78)
 zK:Fz K mg "plus_entry_by_entry" a.jL (aM 79)
 xY:Fz K mg "minus_entry_by_entry" a.jy (aM 80)
 fn_product:Fz K mg "product" a.G8 (aM 81)
 xZ:Fz K mg "times_entry_by_entry" a.jz (aM 82)
 fn_blocks:Fz K mg "blocks" a.f_blocks (aM 83)
 fn_beside:Fz K mg "beside" a.Lz (aM 84)
 fn_below:Fz K mg "below" a.Qu (aM 85)
 YJ:Fz K mg "multiple" a.CQ (aM 86)
 Bf:Fz K mg "value_of_operation" a.qd (aM 88)
 fn_is_side:Fz K mg "is_side" a.R3 (aM 103)
 W3:Fz K mg "is_square" a.KQ (aM 104)
 fn_size_if:Fz K mg "size_if" a.R4 (aM 105)
 LR:Fz K mg "size_of_nones" a.qe (aM 106)
 Ou:Fz K mg "size_of_ones" a.rP (aM 107)
 J3:Fz K mg "size_of_single" a.oJ (aM 108)
 J4:Fz K mg "size_of_turned" a.oK (aM 109)
 Ma:Fz K mg "size_of_trace" a.qg (aM 110)
 Mf:Fz K mg "size_of_power" a.qj (aM 111)
 HJ:Fz K mg "size_of_closure" a.mQ (aM 112)
 zL:Fz K mg "size_of_determinant" a.jM (aM 113)
 Ub:Fz K mg "is_stretch" a.G9 (aM 114)
 QJ:Fz K mg "size_of_cut" a.uI (aM 115)
 zM:Fz K mg "size_entry_by_entry" a.g8 (aM 116)
 Bg:Fz K mg "size_of_difference" a.jX (aM 117)
 HN:Fz K mg "size_of_product" a.mR (aM 118)
 J5:Fz K mg "size_of_blocks" a.oM (aM 119)
 J6:Fz K mg "size_of_beside" a.oN (aM 120)
 Mg:Fz K mg "size_of_below" a.ql (aM 121)
 Fo:Fz K mg "size_of_multiple" a.lK (aM 122)
 Dv:Fz K mg "size_of_operation" a.qM (aM 124)
 W4:Np K mg "Step" a.kj "Step.__init__" a.YC (cu (aM 131) 0) ["self","number","place","given"]
 xq:FnA K mg "is_matrix_expressions" "is_matrix" a.mG (aM 132) ["number"]
 J7:Fz K mg "how_many_given" a.wL (aM 134)
 Dy:Fz K mg "how_many_operands" a.qN (aM 135)
 J8:Fz K mg "begins_operand" a.wM (aM 136)
 Bh:Fz K mg "move_what_is_whole" a.qp (aM 137)
 Uc:Fz K mg "read_steps" a.Hf (aM 138)
 HS:Np K mg "Expression" a.aZ "Expression.__init__" a.JZ (cu (aM 139) 0) ["self","arithmetic","table","numbers"]
 Fp:Mz K a.aZ "judge" "Expression.judge" a.Hg (cu (aM 139) 1)
 uO:Mz K a.aZ "size_of_step" "Expression.size_of_step" a.vD (cu (aM 139) 2)
 tW:Mz K a.aZ "look_at_words" "Expression.look_at_words" a.uJ (cu (aM 139) 3)
 tX:Mz K a.aZ "words_of_step" "Expression.words_of_step" a.uK (cu (aM 139) 4)
 zN:Mz K a.aZ "work_out" "Expression.work_out" a.Aq (cu (aM 139) 5)
 tY:Mz K a.aZ "value_of_step" "Expression.value_of_step" a.uL (cu (aM 139) 6)
 HW:Mz K a.aZ "size" "Expression.size" a.J0 (cu (aM 139) 7)
 Fq:Mz K a.aZ "words" "Expression.words" a.Hh (cu (aM 139) 8)
 Ud:Np K mg "Board" a.jg "Board.__init__" a.WL (cu (aM 147) 0) ["self"]
 QK:Np K mg "Reader" a.cG "Reader.__init__" a.TV (cu (aM 148) 0) ["self","calls"]
 Dz:Mz K a.cG "is_through" "Reader.is_through" a.Fb (cu (aM 148) 1)
 Bj:Mz K a.cG "take_number" "Reader.take_number" a.CT (cu (aM 148) 2)
 HX:Mz K a.cG "take_row" "Reader.take_row" a.J1 (cu (aM 148) 3)
 uP:Mz K a.cG "take_counted_row" "Reader.take_counted_row" a.vG (cu (aM 148) 4)
 HY:Fz K mg "call_arithmetic" a.mU (aM 149)
 Ia:FnA K mg "is_matrix_grids" "is_matrix" a.u5 (aM 150) ["height","width","entries"]
 QL:Fz K mg "call_matrix" a.uM (aM 152)
 Ue:Fz K mg "call_clear" a.wN (aM 153)
 J9:Fz K mg "answer_meaning" a.wO (aM 154)
 Ft:Fz K mg "answer_operation" a.tL (aM 155)
 W5:Fz K mg "call_plus" a.zJ (aM 156)
 Ug:Fz K mg "call_minus" a.wQ (aM 157)
 Uh:Fz K mg "call_times" a.wR (aM 158)
 Ui:Fz K mg "call_raise" a.wV (aM 159)
 YK:Fz K mg "call_dot" a.CV (aM 160)
 Mh:Fz K mg "expression_of" a.yG (aM 161)
 Uj:Fz K mg "call_judge" a.wW (aM 162)
 Uk:Fz K mg "call_value" a.wX (aM 163)
 Mi:Fz K mg "refused_entry" a.yH (aM 164)
 Ul:Fz K mg "call_entry" a.wY (aM 165)
 Ka:Fz K mg "refused_second" a.wZ (aM 166)
 Ov:Fz K mg "answer_alike" a.Aw (aM 167)
 Um:Fz K mg "call_alike" a.xg (aM 168)
 QM:Fz K mg "next_answer" a.Ek (aM 170)
 Ow:Fz K mg "answers" a.Hi (aM 171)
open PySem PySem.Spec PyProof.Rows L2 Tb
open GridTalk (Arith arith Mat Size Leaf One Two whether rowsOf noMat State made unitAt raised stage sized TOP bits HALF allOf signed WORD wordTold)
open GridTalkNeutral (asked1)
open Ps (lA jH begins Nd aV raw dN work pW pB pC Af Ag Ah clean vq pU Jx)
variable {P:Program}{w:World}{K:Frag}{mg:Str->Option Value}{aq:Heap}{a:Ad}
inductive Ox (f:Int->Int->Int)(C:Int->Int->Prop)(vs:List V)(H:Hp)(Q:VK)(E:XK):Prop where
 |mk (x y:Int) (cI:vs=[.int x,.int y]) (cJ:C x y) (cQ:Q (.int (f x y)) H)
theorem pH {f C}:∀vs H Q E,Ox f C vs H Q E->vs.length=2:=by
 rintro vs H Q E ⟨x,y,rfl,_⟩;rfl
abbrev T2:Int->Int->Prop:=λz z=>True
abbrev N2:Int->Int->Prop:=λx y=>0<=x/\0<=y
theorem nF (G:aU K mg a):bI P w K mg aq "whole_sum" a.kO 1 ["x","y"] (Ox (λx y=>x+y) T2):=G.WW.bx λfd F=>by
 refine F.ok Wo pH (λz A z s H vs Q E hr h=>?_);obtain⟨x,y,rfl,_,k⟩:=h;refine⟨_,(ak (aG (bD jD aK aR))),?_⟩;exact⟨_,rfl,_,rfl,_,_,rfl,rfl,k⟩
theorem lM (G:aU K mg a):bI P w K mg aq "whole_difference" a.gP 1 ["x","y"] (Ox (λx y=>x-y) T2):=G.Fj.bx λfd F=>by
 refine F.ok Ey pH (λz A z s H vs Q E hr h=>?_);obtain⟨x,y,rfl,_,k⟩:=h;refine⟨_,(ak (aG (bD lF aK aR))),?_⟩;exact⟨_,rfl,_,rfl,_,_,rfl,rfl,k⟩
theorem iw (G:aU K mg a):bI P w K mg aq "whole_product" a.jm 1 ["x","y"] (Ox (λx y=>x*y) zj):=G.LC.bx λfd F=>by
 refine F.ok Lg pH (λz A z s H vs Q E hr h=>?_);obtain⟨x,y,rfl,c,k⟩:=h;refine⟨_,(ak (aG (bD mZ aK aR))),?_⟩;exact⟨_,rfl,_,rfl,_,_,rfl,rfl,c,k⟩
theorem Mj (G:aU K mg a):bI P w K mg aq "lesser" a.CP 1 ["x","y"] (Ox (λx y=>min x y) T2):=G.fn_lesser.bx λfd F=>by
 refine F.ok sc_lesser pH (λz A z s H vs Q E hr h=>?_);obtain⟨x,y,rfl,c,k⟩:=h;have k:Q (.int (min x y)) H:=k;refine⟨_,(ak (aG (iB (bY (pL aK aR)) aK aR))),?_⟩;ac_rfl;by_cases h:x<y
 ·rw[if_pos h];have e:min x y=x:=by lia
  rw[e] at k;exact k
 ·rw[if_neg h];have e:min x y=y:=by lia
  rw[e] at k;exact k
theorem d_greater (G:aU K mg a):bI P w K mg aq "greater" a.G3 1 ["x","y"] (Ox (λx y=>max x y) T2):=G.fn_greater.bx λfd F=>by
 refine F.ok sc_greater pH (λz A z s H vs Q E hr h=>?_);obtain⟨x,y,rfl,c,k⟩:=h;have k:Q (.int (max x y)) H:=k;refine⟨_,(ak (aG (iB (bY (Mw aK aR)) aK aR))),?_⟩;ac_rfl;by_cases h:y<x
 ·rw[if_pos h];have e:max x y=x:=by lia
  rw[e] at k;exact k
 ·rw[if_neg h];have e:max x y=y:=by lia
  rw[e] at k;exact k
theorem d_either (G:aU K mg a):bI P w K mg aq "either" a.Ls 1 ["x","y"] (Ox (bits lor) N2):=G.fn_either.bx λfd F=>by
 refine F.ok sc_either pH (λz A z s H vs Q E hr h=>?_);obtain⟨x,y,rfl,c,k⟩:=h;refine⟨_,(ak (aG (bD op_or aK aR))),?_⟩;refine⟨_,rfl,_,rfl,_,_,rfl,rfl,?_⟩;show Q (.int (Builtin.bitOr x y)) H;rw[Bit.U0 c.1 c.2];exact k
theorem Oz (G:aU K mg a):bI P w K mg aq "both" a.f_both 1 ["x","y"] (Ox (bits land) N2):=G.fn_both.bx λfd F=>by
 refine F.ok sc_both pH (λz A z s H vs Q E hr h=>?_);obtain⟨x,y,rfl,c,k⟩:=h;refine⟨_,(ak (aG (bD vW aK aR))),?_⟩;refine⟨_,rfl,_,rfl,_,_,rfl,rfl,?_⟩;show Q (.int (Builtin.bitAnd x y)) H;rw[Bit.Wk c.1 c.2];exact k
theorem vH (G:aU K mg a):bI P w K mg aq "just_one" a.mj 1 ["x","y"] (Ox (bits xor) N2):=G.YG.bx λfd F=>by
 refine F.ok Yy pH (λz A z s H vs Q E hr h=>?_);obtain⟨x,y,rfl,c,k⟩:=h;refine⟨_,(ak (aG (bD pO aK aR))),?_⟩;refine⟨_,rfl,_,rfl,_,_,rfl,rfl,?_⟩;show Q (.int (Builtin.bitXor x y)) H;rw[Bit.Oa c.1 c.2];exact k
inductive spPoly (vs:List V)(H:Hp)(Q:VK)(E:XK):Prop where
 |mk (x y m:Nat) (cI:vs=[.int x,.int y,.int m]) (cJ:x<18446744073709551616) (cQ:m<18446744073709551616) (dH:Q (.int (GridTalk.fieldTimes m x y:Nat)) H)
theorem JG (y i:Nat):Builtin.bitAnd ((y:Int)/2^i) 1=if y.testBit i then 1 else 0:=by
 rw[bitAnd_m1];have e:((y:Int)/2^i)=((y/2^i:Nat):Int):=by simp
 rw[e,Nat.testBit_eq_decide_div_mod_eq];by_cases h:y/2^i%2=1
 ·simp only[h,decide_true,if_true];lia
 ·simp only[h,decide_false];simp;lia
theorem rg64:RgC (64-1) (-1) (-1) 64:=by unfold RgC;decide
theorem qw (G:aU K mg a):bI P w K mg aq "polynomial_product" a.pY 1 ["x","y","modulus"] spPoly:=G.Ba.bx λfd F=>by
 refine F.ok d9 (λvs H Q E h=>?_) (λz A z s H vs Q E hr h=>?_)
 ·obtain⟨x,y,m,rfl,_⟩:=h;rfl
 obtain⟨x,y,m,rfl,hx,hm,k⟩:=h;refine⟨_,(aC (aX 3 d9.nd au) (aC (fB PassesOwn.never rfl (Rr rfl G.kW (bC (bD lF (bL rfl G.rQ) au) (bB (nM j5 au) (nM j5 au)))) (bM (i:=4) d9.nd rfl (Or.inl rfl)) (aC (aX 3 d9.nd (bD op_shl bF au)) (aC (cC (bY (Uw bF (bL rfl G.JD))) (ak (aX 3 d9.nd (bD pO (bD pO bF (bL rfl G.JD)) bf))) bN) (ak (cC (bY (dD (bD vW (bD zZ aR cM) au) au)) (ak (aX 3 d9.nd (bD pO bF aK))) bN))))) (ak (aG bF)))),?_⟩;simp_arith! [eH,iRng3];refine⟨_,_,_,64,rfl,rg64,Nh (lo:=64-1) (c:= -1) (n:=64) (λi σ Z=>Z=H/\∃v,σ=[some (.int x),some (.int y),some (.int m),some (.int (Poly.jC m x y i:Nat)),v]) ?_ ?_ ?_⟩
 ·exact⟨rfl,_,rfl⟩
 ·rintro i σ Z hi ⟨rfl,v,rfl⟩;have hlt:=Poly.La m x y hm hx i (by lia);have hb:(64-1+(i:Int)* -1)=((63-i:Nat):Int):=by lia
  rw[hb];refine⟨_,rfl,_,_,rfl,rfl,⟨by decide,by decide,?_⟩,?_⟩
  ·show((Poly.jC m x y i:Nat):Int).natAbs<2^64;rw[Int.natAbs_natCast];exact hlt
  ·ac_rfl;have e1:((Poly.jC m x y i:Nat):Int)*2^toNat 1=((Poly.jC m x y i*2:Nat):Int):=by
    show _*((2:Int)^1)=_;lia
   have e2:((63-i:Nat):Int).toNat=63-i:=toNat_natCast _;have e3:Poly.jC m x y (i+1)=Poly.Nr m x (y.testBit (63-i)) (Poly.jC m x y i):=rfl;have xx:∀u v:Nat,Builtin.bitXor (u:Int) (v:Int)=((u ^^^ v:Nat):Int):=λu v=>by
    rw[Bit.Oa (natCast_nonneg _) (natCast_nonneg _),toNat_natCast,toNat_natCast]
   have ew:(18446744073709551616:Int)=((18446744073709551616:Nat):Int):=rfl;rw[e1,e2,JG,e3,ew,xx,xx,xx,xx];unfold Poly.Nr;generalize Poly.jC m x y i*2=p;by_cases hp:18446744073709551616<=p
   ·rw[if_pos (by lia),if_pos hp];refine⟨by lia,?_⟩;cases y.testBit (63-i)
    ·rw[if_neg (by decide)];exact⟨_,rfl⟩
    ·rw[if_pos (by decide)];exact⟨_,rfl⟩
   ·rw[if_neg (by lia),if_neg hp];refine⟨by lia,?_⟩;cases y.testBit (63-i)
    ·rw[if_neg (by decide)];exact⟨_,rfl⟩
    ·rw[if_pos (by decide)];exact⟨_,rfl⟩
 ·rintro σ Z ⟨rfl,v,rfl⟩;refine⟨_,rfl,?_⟩;rw[Poly.Nt m x y hm hx];exact k
def KR (k m:Nat):List (Str×V):=bA "modulus" (.int m) (bA "kind" (.int k) [])
def dO (a:Ad)(H:Hp)(p:Addr)(k m:Nat):Prop:=∃dx,H p=some (.ins a.fJ dx (KR k m))
theorem arF_kind (k m:Nat):(KR k m).lookup ("kind":Str)=some (.int k):=by
 unfold KR;rw[aP,if_neg (by decide+kernel),aP,if_pos rfl]
theorem arF_mod (k m:Nat):(KR k m).lookup ("modulus":Str)=some (.int m):=by
 unfold KR;rw[aP,if_pos rfl]
theorem dO.same {H Z:Hp}{p:Addr}{k m:Nat}(h:dO a H p k m)(s:aA H Z):dO a Z p k m:=let ⟨dx,e⟩:=h;⟨dx,s _ _ e⟩
theorem jN (G:aU K mg a){H:Hp}{p:Addr}{k m:Nat}(h:dO a H p k m){Q:VK}:gn K "kind" (.ref p) H Q↔Q (.int k) H:=by
 obtain⟨dx,e⟩:=h;exact dJ e G.nZ G.u6 (arF_kind k m)
theorem qz (G:aU K mg a){H:Hp}{p:Addr}{k m:Nat}(h:dO a H p k m){Q:VK}:gn K "modulus" (.ref p) H Q↔Q (.int m) H:=by
 obtain⟨dx,e⟩:=h;exact dJ e G.nZ G.qt (arF_mod k m)
inductive spIsAr (vs:List V)(H:Hp)(Q:VK)(E:XK):Prop where
 |mk (k m:Nat) (cI:vs=[.int k,.int m]) (cJ:m<18446744073709551616) (cQ:Q (.bl (arith k m).isSome) H)
inductive spNum (a:Ad)(g:Arith->Nat->V)(vs:List V)(H:Hp)(Q:VK)(E:XK):Prop where
 |mk (p:Addr) (k m:Nat) (A:Arith) (x:Nat) (cI:vs=[.ref p,.int x]) (cJ:dO a H p k m) (cQ:arith k m=some A) (dH:x<18446744073709551616) (fC:Q (g A x) H)
def jo (A:Arith)(z:Int):V:=match A.word z with|some w=>.int w|none=>.non
inductive spWord (a:Ad)(vs:List V)(H:Hp)(Q:VK)(E:XK):Prop where
 |mk (p:Addr) (k m:Nat) (A:Arith) (z:Int) (cI:vs=[.ref p,.int z]) (cJ:dO a H p k m) (cQ:arith k m=some A) (dH:Ar.Dom k z) (fC:Q (jo A z) H)
inductive W6 (a:Ad)(g:Arith->Int->Int->Int)(C:Nat->Arith->Int->Int->Prop)(vs:List V)(H:Hp)(Q:VK)(E:XK):Prop where
 |mk (p:Addr) (k m:Nat) (A:Arith) (x y:Int) (cI:vs=[.ref p,.int x,.int y]) (cJ:dO a H p k m) (cQ:arith k m=some A) (dH:m<18446744073709551616) (fC:Ar.Dom k x) (gF:Ar.Dom k y) (iQ:C k A x y) (kE:Q (.int (g A x y)) H)
theorem OD (G:aU K mg a):bI P w K mg aq "is_arithmetic" a.yE 1 ["kind","modulus"] spIsAr:=G.LK.bx λfd F=>by
 refine F.ok Lh (λvs H Q E h=>?_) (λz A z s H vs Q E hr h=>?_)
 ·obtain⟨k,m,rfl,_⟩:=h;rfl
 obtain⟨k,m,rfl,hm,q⟩:=h;refine⟨_,(aC (cC (bY (dD aK (bL rfl G.Qw))) (ak (aG (Vk Uy op_lt au aR (bL rfl G.nY)))) bN) (aC (cC (bY (dD aK (bL rfl G.nA))) (ak (aG pe_bl)) bN) (ak (aG (jj (fU (pL aK (bL rfl G.nA))) (eF (fU (dD aR au)))))))),?_⟩;ac_rfl;have c:(arith k m).isSome=if k=1 then decide (1<=m/\m<9223372036854775808) else if k=7 then true else decide (k<7/\m=0):=by
  by_cases h7:k<=7
  ·have:k=0\/k=1\/k=2\/k=3\/k=4\/k=5\/k=6\/k=7:=by lia
   rcases this with rfl|rfl|rfl|rfl|rfl|rfl|rfl|rfl
   ·show(if m=0 then _ else none).isSome=_;by_cases e:m=0<;>simp[e]
   ·show(if 1<=m/\m<HALF then _ else none).isSome=_;by_cases e:1<=m/\m<9223372036854775808
    ·rw[if_pos (show 1<=m/\m<HALF from e)];simp[e]
    ·rw[if_neg (show¬(1<=m/\m<HALF) from e)];simp[e]
   ·show(if m=0 then _ else none).isSome=_;by_cases e:m=0<;>simp[e]
   ·show(if m=0 then _ else none).isSome=_;by_cases e:m=0<;>simp[e]
   ·show(if m=0 then _ else none).isSome=_;by_cases e:m=0<;>simp[e]
   ·show(if m=0 then _ else none).isSome=_;by_cases e:m=0<;>simp[e]
   ·show(if m=0 then _ else none).isSome=_;by_cases e:m=0<;>simp[e]
   ·show(if m<WORD then _ else none).isSome=_;rw[if_pos (show m<WORD from hm)];rfl
  ·have e:arith k m=none:=by
    unfold arith;split<;>first|rfl|lia
   rw[e,if_neg (by lia),if_neg (by lia)];simp;lia
 rw[c] at q;by_cases h1:k=1
 ·rw[if_pos h1] at q;rw[if_pos (by lia)];by_cases h2:1<=m
  ·rw[if_pos (by lia)];have e:decide ((m:Int)<9223372036854775808)=decide (1<=m/\m<9223372036854775808):=decide_eq_decide.mpr (by lia);rw[e];exact q
  ·rw[if_neg (by lia)];rw[decide_eq_false (by lia)] at q;exact q
 ·rw[if_neg h1] at q;rw[if_neg (by lia)];by_cases h7:k=7
  ·rw[if_pos h7] at q;rw[if_pos (by lia)];exact q
  ·rw[if_neg h7] at q;rw[if_neg (by lia)];by_cases h2:k<7
   ·rw[if_pos (by lia)];have e:decide ((m:Int)=0)=decide (k<7/\m=0):=decide_eq_decide.mpr (by lia);rw[e];exact q
   ·rw[if_neg (by lia)];rw[decide_eq_false (by lia)] at q;exact q
theorem Ib (G:aU K mg a):bI P w K mg aq "has_number" a.G4 1 ["arithmetic","word"] (spNum a λA x=>.bl (A.number x)):=G.T8.bx λfd F=>by
 refine F.ok Tr (λvs H Q E h=>?_) (λz A z s H vs Q E hr h=>?_)
 ·obtain⟨p,k,m,A,x,rfl,_⟩:=h;rfl
 obtain⟨p,k,m,A,x,rfl,hA,O,hx,q⟩:=h;refine⟨_,(ak (aG (pe_or (fU (Mx (aQ aK rfl) (bL rfl G.Qw))) (eF (fU (pL aR (aQ aK rfl))))))),?_⟩;ac_rfl;simp only[jN G hA,qz G hA];ac_rfl;revert q;refine Ar.eV O (C:=λk m A=>Q (.bl (A.number x)) H->if (k:Int)=1 then Q (.bl (decide ((x:Int)<(m:Int)))) H else Q (.bl true) H) ?_ (λm z z=>?_) ?_ ?_ ?_ ?_ ?_ (λm z=>?_)<;>intro q
 all_goals first
  |(rw[if_neg (by decide)];exact q)
  |(rw[if_pos (by decide)];have e:decide ((x:Int)<(m:Int))=decide (x<m):=decide_eq_decide.mpr (by lia)
    rw[e];exact q)
theorem lN (G:aU K mg a):bI P w K mg aq "meaning_of" a.G5 1 ["arithmetic","word"] (spNum a λA x=>.int (A.mean x)):=G.T9.bx λfd F=>by
 refine F.ok Tt (λvs H Q E h=>?_) (λz A z s H vs Q E hr h=>?_)
 ·obtain⟨p,k,m,A,x,rfl,_⟩:=h;rfl
 obtain⟨p,k,m,A,x,rfl,hA,O,hx,q⟩:=h;refine⟨_,(aC (cC (PW.pt (Vf (bY (dD (aQ aK rfl) (bL rfl G.WM))) (Py (bY (Uw aR (bL rfl G.nY)))))) (ak (aG (bD lF aR (bL rfl G.JD)))) bN) (ak (aG aR))),?_⟩;ac_rfl;simp only[jN G hA,qz G hA];ac_rfl;revert q;refine Ar.eV O (C:=λk m A=>Q (.int (A.mean x)) H->if (k:Int)=2 then(if (9223372036854775808:Int)<=x then Q (.int ((x:Int)-18446744073709551616)) H else Q (.int x) H) else Q (.int x) H) ?_ (λm z z=>?_) ?_ ?_ ?_ ?_ ?_ (λm z=>?_)<;>intro q
 all_goals first
  |(rw[if_neg (by decide)];exact q)
  |skip
 rw[if_pos (by decide)];have q:Q (.int (signed x)) H:=q;unfold signed at q;by_cases h:x<9223372036854775808
 ·rw[if_neg (by lia)];rw[if_pos (show x<HALF from h)] at q;exact q
 ·rw[if_pos (by lia)];rw[if_neg (show¬x<HALF from h)] at q;exact q
theorem Sx (G:aU K mg a):bI P w K mg aq "word_of" a.RV 1 ["arithmetic","meaning"] (spWord a):=G.fn_word_of.bx λfd F=>by
 refine F.ok sc_word_of (λvs H Q E h=>?_) (λy A y s H vs Q E hr h=>?_)
 ·obtain⟨p,k,m,A,x,rfl,_⟩:=h;rfl
 obtain⟨p,k,m,A,x,rfl,hA,O,hx,q⟩:=h;refine⟨_,(aC (cC (bY (dD (aQ aK rfl) (bL rfl G.WRAPPING))) (ak (aG (bD zY aR (bL rfl G.JD)))) bN) (aC (cC (bY (dD (aQ aK rfl) (bL rfl G.Qw))) (ak (aG (bD zY aR (aQ aK rfl)))) bN) (aC (cC (bY (dD (aQ aK rfl) (bL rfl G.WM))) (ak (aG (iB (pt_chain Uy op_lt (nM j5 (bL rfl G.nY)) aR (bL rfl G.nY)) (bD zY aR (bL rfl G.JD)) mX))) bN) (aC (cC (bY (dD (aQ aK rfl) (bL rfl G.WAYS))) (ak (aG (cF (call_min2 rfl) (by rfl) G.b_min boot_min (bB aR (bL rfl G.Hl))))) bN)
   (ak (aG aR)))))),?_⟩
 ac_rfl;simp only[jN G hA,qz G hA];ac_rfl;rcases Ar.cV O with⟨rfl,rfl,rfl⟩|⟨rfl,m1,m2,rfl⟩|⟨rfl,rfl,rfl⟩|⟨rfl,rfl,rfl⟩|⟨rfl,rfl,rfl⟩|⟨rfl,rfl,rfl⟩|⟨rfl,rfl,rfl⟩|⟨rfl,m2,rfl⟩
 ·rw[if_pos (by decide)];refine⟨by decide,?_⟩;have e:jo (GridTalk.plain (λ(z:Int)=>some (z%(WORD:Int)).toNat) λy=>true) x=.int (x%18446744073709551616):=by
   show V.int ((x%(WORD:Int)).toNat:Nat)=_;have q:(WORD:Int)=18446744073709551616:=rfl;rw[q];congr 1;lia
  rw[e] at q;exact q
 ·rw[if_neg (by decide),if_pos (by decide)];refine⟨by lia,?_⟩;have e:jo (GridTalk.plain (λ(z:Int)=>some (z%(m:Int)).toNat) λ(x:Nat)=>decide (x<m)) x=.int (x%m):=by
   show V.int ((x%(m:Int)).toNat:Nat)=_;have:=Int.emod_nonneg x (show(m:Int)≠0 by lia)
   congr 1;lia
  rw[e] at q;exact q
 ·rw[if_neg (by decide),if_neg (by decide),if_pos (by decide)]
  have q:Q (match (if-(HALF:Int)<=x/\x<(HALF:Int) then some (x%(WORD:Int)).toNat else none) with|some w=>.int w|none=>.non) H:=q
  have e1:(HALF:Int)=9223372036854775808:=rfl;have e2:(WORD:Int)=18446744073709551616:=rfl;rw[e1,e2] at q;by_cases h1: -9223372036854775808<=x
  ·rw[if_pos h1];by_cases h2:x<9223372036854775808
   ·rw[if_pos h2];rw[if_pos ⟨h1,h2⟩] at q;refine⟨by decide,?_⟩;have e:x%18446744073709551616=(((x%18446744073709551616).toNat:Nat):Int):=by lia
    rw[e];exact q
   ·rw[if_neg h2];rw[if_neg (by lia)] at q;exact q
  ·rw[if_neg h1];rw[if_neg (by lia)] at q;exact q
 ·rw[if_neg (by decide),if_neg (by decide),if_neg (by decide),if_pos (by decide)];have q:Q (.int ((min x TOP).toNat:Nat)) H:=q;have e1:TOP=18446744073709551615:=by decide
  have hx:0<=x:=Ar.rC.mp hx;have e:(if (18446744073709551615:Int)<x then(18446744073709551615:Int) else x)=((min x TOP).toNat:Nat):=by rw[e1];lia
  rw[e];exact q
 all_goals
  rw[if_neg (by decide),if_neg (by decide),if_neg (by decide),if_neg (by decide)];have q:Q (.int (x.toNat:Nat)) H:=q;have hx:=(Ar.fO (by lia)).mp hx;have e:((x.toNat:Nat):Int)=x:=by lia
  rw[e] at q;exact q
theorem Ml {g C}:∀vs H Q E,W6 a g C vs H Q E->vs.length=3:=by
 rintro vs H Q E ⟨p,k,m,A,x,y,rfl,_⟩;rfl
abbrev TrueC:Nat->Arith->Int->Int->Prop:=λz z z z=>True
theorem gR {k:Nat}(h:3<=k){x:Int}(d:Ar.Dom k x):0<=x:=by
 unfold Ar.Dom at d;rw[if_neg (by lia)] at d;split at d
 ·exact d
 ·exact d.1
theorem W7 (G:aU K mg a):bI P w K mg aq "plus" a.Wx 2 ["arithmetic","x","y"] (W6 a (λA=>A.plus) TrueC):=G.fn_plus.bx λfd F=>by
 refine F.ok sc_plus Ml (λz A z s H vs Q E hr h=>?_);obtain⟨p,k,m,A,x,y,rfl,hA,O,hm,hx,hy,_,q⟩:=h;refine⟨_,(ak (aG (jT (aJ bT (jc rfl G.PLUS) (aQ aK rfl) (λz z=>rfl)) (bB aR bf)))),?_⟩;ac_rfl;simp only[jN G hA,qz G hA];rcases Ar.cV O with⟨rfl,rfl,rfl⟩|⟨rfl,m1,m2,rfl⟩|⟨rfl,rfl,rfl⟩|⟨rfl,rfl,rfl⟩|⟨rfl,rfl,rfl⟩|⟨rfl,rfl,rfl⟩|⟨rfl,rfl,rfl⟩|⟨rfl,m2,rfl⟩
 ·exact bw (G.tO H) rfl (aY (nF G) hr ⟨_,_,rfl,trivial,q⟩)
 ·exact bw (G.tO H) rfl (aY (nF G) hr ⟨_,_,rfl,trivial,q⟩)
 ·exact bw (G.tO H) rfl (aY (nF G) hr ⟨_,_,rfl,trivial,q⟩)
 ·exact bw (G.tO H) rfl (aY (Mj G) hr ⟨_,_,rfl,trivial,q⟩)
 ·exact bw (G.tO H) rfl (aY (d_greater G) hr ⟨_,_,rfl,trivial,q⟩)
 ·exact bw (G.tO H) rfl (aY (d_either G) hr ⟨_,_,rfl,⟨gR (by lia) hx,gR (by lia) hy⟩,q⟩)
 ·exact bw (G.tO H) rfl (aY (vH G) hr ⟨_,_,rfl,⟨gR (by lia) hx,gR (by lia) hy⟩,q⟩)
 ·exact bw (G.tO H) rfl (aY (vH G) hr ⟨_,_,rfl,⟨gR (by lia) hx,gR (by lia) hy⟩,q⟩)
abbrev MulC:Nat->Arith->Int->Int->Prop:=λk z x y=>k<=2->zj x y
theorem vU (G:aU K mg a):bI P w K mg aq "times" a.Qq 2 ["arithmetic","x","y"] (W6 a (λA=>A.times) MulC):=G.fn_times.bx λfd F=>by
 refine F.ok sc_times Ml (λz A z s H vs Q E hr h=>?_);obtain⟨p,k,m,A,x,y,rfl,hA,O,hm,hx,hy,hc,q⟩:=h;refine⟨_,(aC (cC (bY (dD (aQ aK rfl) (bL rfl G.nA))) (ak (aG (aD (qw G) (bC aR (bB bf (aQ aK rfl)))))) bN) (ak (aG (jT (aJ bT (jc rfl G.TIMES) (aQ aK rfl) (λz z=>rfl)) (bB aR bf))))),?_⟩;ac_rfl;simp only[jN G hA,qz G hA];ac_rfl;rcases Ar.cV O with⟨rfl,rfl,rfl⟩|⟨rfl,m1,m2,rfl⟩|⟨rfl,rfl,rfl⟩|⟨rfl,rfl,rfl⟩|⟨rfl,rfl,rfl⟩|⟨rfl,rfl,rfl⟩|⟨rfl,rfl,rfl⟩|⟨rfl,m2,rfl⟩
 ·rw[if_neg (by decide)];exact bw (G.iu H) rfl (aY (iw G) hr ⟨_,_,rfl,hc (by lia),q⟩)
 ·rw[if_neg (by decide)];exact bw (G.iu H) rfl (aY (iw G) hr ⟨_,_,rfl,hc (by lia),q⟩)
 ·rw[if_neg (by decide)];exact bw (G.iu H) rfl (aY (iw G) hr ⟨_,_,rfl,hc (by lia),q⟩)
 ·rw[if_neg (by decide)];exact bw (G.iu H) rfl (aY (nF G) hr ⟨_,_,rfl,trivial,q⟩)
 ·rw[if_neg (by decide)];exact bw (G.iu H) rfl (aY (Mj G) hr ⟨_,_,rfl,trivial,q⟩)
 ·rw[if_neg (by decide)];exact bw (G.iu H) rfl (aY (Oz G) hr ⟨_,_,rfl,⟨gR (by lia) hx,gR (by lia) hy⟩,q⟩)
 ·rw[if_neg (by decide)];exact bw (G.iu H) rfl (aY (Oz G) hr ⟨_,_,rfl,⟨gR (by lia) hx,gR (by lia) hy⟩,q⟩)
 ·rw[if_pos (by decide)];have hx:=(Ar.fO (by lia)).mp hx;have hy:=(Ar.fO (by lia)).mp hy;refine⟨x.toNat,y.toNat,m,?_,by lia,m2,q⟩;have e1:((x.toNat:Nat):Int)=x:=by lia
  have e2:((y.toNat:Nat):Int)=y:=by lia
  rw[e1,e2]
inductive spHasMinus (a:Ad)(vs:List V)(H:Hp)(Q:VK)(E:XK):Prop where
 |mk (p:Addr) (k m:Nat) (A:Arith) (cI:vs=[.ref p]) (cJ:dO a H p k m) (cQ:arith k m=some A) (dH:Q (.bl A.minus.isSome) H)
theorem zO (G:aU K mg a):bI P w K mg aq "has_minus" a.KH 1 ["arithmetic"] (spHasMinus a):=G.WX.bx λfd F=>by
 refine F.ok Wq (λvs H Q E h=>?_) (λz A z s H vs Q E hr h=>?_)
 ·obtain⟨p,k,m,A,rfl,_⟩:=h;rfl
 obtain⟨p,k,m,A,rfl,hA,O,q⟩:=h;refine⟨_,(ak (aG (fU (YX (aJ bT (jc rfl G.MINUS) (aQ aK rfl) (λz z=>rfl)))))),?_⟩;ac_rfl;simp only[MF];ac_rfl;simp only[jN G hA,qz G hA];rcases Ar.cV O with⟨rfl,rfl,rfl⟩|⟨rfl,m1,m2,rfl⟩|⟨rfl,rfl,rfl⟩|⟨rfl,rfl,rfl⟩|⟨rfl,rfl,rfl⟩|⟨rfl,rfl,rfl⟩|⟨rfl,rfl,rfl⟩|⟨rfl,m2,rfl⟩<;>exact bw (G.vQ H) rfl q
abbrev MinC:Nat->Arith->Int->Int->Prop:=λz A z z=>A.minus.isSome=true
theorem JH (G:aU K mg a):bI P w K mg aq "minus" a.Qs 2 ["arithmetic","x","y"] (W6 a (λA=>A.less) MinC):=G.fn_minus.bx λfd F=>by
 refine F.ok sc_minus Ml (λz A z s H vs Q E hr h=>?_);obtain⟨p,k,m,A,x,y,rfl,hA,O,hm,hx,hy,hc,q⟩:=h;refine⟨_,(ak (aG (jT (aJ bT (jc rfl G.MINUS) (aQ aK rfl) (λz z=>rfl)) (bB aR bf)))),?_⟩;ac_rfl;simp only[jN G hA,qz G hA];rcases Ar.cV O with⟨rfl,rfl,rfl⟩|⟨rfl,m1,m2,rfl⟩|⟨rfl,rfl,rfl⟩|⟨rfl,rfl,rfl⟩|⟨rfl,rfl,rfl⟩|⟨rfl,rfl,rfl⟩|⟨rfl,rfl,rfl⟩|⟨rfl,m2,rfl⟩
 ·exact bw (G.vQ H) rfl (aY (lM G) hr ⟨_,_,rfl,trivial,q⟩)
 ·exact bw (G.vQ H) rfl (aY (lM G) hr ⟨_,_,rfl,trivial,q⟩)
 ·exact bw (G.vQ H) rfl (aY (lM G) hr ⟨_,_,rfl,trivial,q⟩)
 ·cases hc
 ·cases hc
 ·cases hc
 ·exact bw (G.vQ H) rfl (aY (vH G) hr ⟨_,_,rfl,⟨gR (by lia) hx,gR (by lia) hy⟩,q⟩)
 ·exact bw (G.vQ H) rfl (aY (vH G) hr ⟨_,_,rfl,⟨gR (by lia) hx,gR (by lia) hy⟩,q⟩)
inductive Bl (K:Frag)(C:List Int->Prop)(R:List Int->Int->Prop)(vs:List V)(H:Hp)(Q:VK)(E:XK):Prop where
 |mk (l:Addr) (ns:List Int) (cI:vs=[.ref l]) (cJ:aF K H l (ns.map V.int)) (cQ:C ns) (dH:∀z,R ns z->Q (.int z) H)
theorem qC {C R}:∀vs H Q E,Bl K C R vs H Q E->vs.length=1:=by
 rintro vs H Q E ⟨l,ns,rfl,_⟩;rfl
abbrev TL:List Int->Prop:=λz=>True
abbrev NL:List Int->Prop:=λns=>∀x∈ns,0<=x
theorem xr (G:aU K mg a):bI P w K mg aq "sum_of_all" a.lJ 1 ["meanings"] (Bl K TL λns z=>z=ns.sum):=G.T5.bx λfd F=>by
 refine F.ok Tq qC (λy A y s H vs Q E hr h=>?_);obtain⟨l,ns,rfl,hl,_,q⟩:=h;refine⟨_,(ak (aG (cF (cr_sum rfl) (by rfl) G.b_sum boot_sum (bG aK)))),?_⟩;ac_rfl;exact⟨l,ns,rfl,hl,q _ rfl⟩
theorem QS (G:aU K mg a):bI P w K mg aq "least_of_all" a.rO 1 ["meanings"] (Bl K TL λns z=>ns=[]/\z=18446744073709551615\/z∈ns/\∀y∈ns,z<=y):=G.Oq.bx λfd F=>by
 refine F.ok Oh qC (λx A x s H vs Q E hr h=>?_);obtain⟨l,ns,rfl,hl,_,q⟩:=h;refine⟨_,(ak (aG (Zi false rfl (by rfl) G.b_min boot_min aK (bL rfl G.Hl)))),?_⟩;ac_rfl;refine⟨l,ns,_,rfl,rfl,hl,λe=>q _ (.inl ⟨e,rfl⟩),λm h1 h2=>q _ (.inr ⟨h1,λy hy=>?_⟩)⟩;simpa using h2 y hy
theorem Kc (G:aU K mg a):bI P w K mg aq "greatest_of_all" a.mO 1 ["meanings"] (Bl K TL λns z=>ns=[]/\z=0\/z∈ns/\∀y∈ns,y<=z):=G.Hy.bx λfd F=>by
 refine F.ok GC qC (λx A x s H vs Q E hr h=>?_);obtain⟨l,ns,rfl,hl,_,q⟩:=h;refine⟨_,(ak (aG (Zi true rfl (by rfl) G.b_max boot_max aK au))),?_⟩;ac_rfl;refine⟨l,ns,_,rfl,rfl,hl,λe=>q _ (.inl ⟨e,rfl⟩),λm h1 h2=>q _ (.inr ⟨h1,λy hy=>?_⟩)⟩;simpa using h2 y hy
theorem W8 (G:aU K mg a):bI P w K mg aq "any_of_all" a.wK 1 ["meanings"] (Bl K NL λns z=>z=ns.foldl (bits lor) 0):=G.T6.bx λfd F=>by
 refine F.ok nQ qC (λy A y s H vs Q E hr h=>?_);obtain⟨l,ns,rfl,hl,hn,q⟩:=h;refine⟨_,(aC (aX 1 nQ.nd au) (aC (fB PassesOwn.never rfl (fj aK) (bM (i:=2) nQ.nd rfl (Or.inl rfl)) (ak (aX 1 nQ.nd (bD op_or aR bf)))) (ak (aG aR)))),?_⟩;refine⟨_,rfl,l,rfl,⟨_,hl⟩,iU (K:=K) (a:=l) (xs:=ns.map V.int) (λi σ Z=>Z=H/\0<=(ns.take i).foldl (bits lor) 0/\∃v,σ=[some (.ref l),some (.int ((ns.take i).foldl (bits lor) 0)),v]) ?_ (λi σ Z _ ⟨e,_⟩=>by subst e;exact hl) ?_ ?_⟩
 ·exact⟨rfl,Int.le_refl _,none,rfl⟩
 ·rintro i u σ Z hi ⟨rfl,h0,v,rfl⟩;rw[getElem?_map] at hi;obtain⟨z,hz,rfl⟩:=map_eq_some_iff.mp hi;have hz0:=hn z (mem_of_getElem? hz);ac_rfl;rw[take_snoc hz,foldl_append];refine⟨?_,some (.int z),?_⟩
  ·show 0<=bits lor _ _;unfold bits;exact natCast_nonneg _
  ·show[_,some (V.int (Builtin.bitOr _ z)),_]=_;rw[Bit.U0 h0 hz0];rfl
 ·rintro σ Z ⟨rfl,_,v,rfl⟩;ac_rfl;rw[length_map,take_length];exact q _ rfl
theorem Ie (G:aU K mg a):bI P w K mg aq "odd_of_all" a.p7 1 ["meanings"] (Bl K NL λns z=>z=ns.foldl (bits xor) 0):=G.T7.bx λfd F=>by
 refine F.ok nU qC (λy A y s H vs Q E hr h=>?_);obtain⟨l,ns,rfl,hl,hn,q⟩:=h;refine⟨_,(aC (aX 1 nU.nd au) (aC (fB PassesOwn.never rfl (fj aK) (bM (i:=2) nU.nd rfl (Or.inl rfl)) (ak (aX 1 nU.nd (bD pO aR bf)))) (ak (aG aR)))),?_⟩;refine⟨_,rfl,l,rfl,⟨_,hl⟩,iU (K:=K) (a:=l) (xs:=ns.map V.int) (λi σ Z=>Z=H/\0<=(ns.take i).foldl (bits xor) 0/\∃v,σ=[some (.ref l),some (.int ((ns.take i).foldl (bits xor) 0)),v]) ?_ (λi σ Z _ ⟨e,_⟩=>by subst e;exact hl) ?_ ?_⟩
 ·exact⟨rfl,Int.le_refl _,none,rfl⟩
 ·rintro i u σ Z hi ⟨rfl,h0,v,rfl⟩;rw[getElem?_map] at hi;obtain⟨z,hz,rfl⟩:=map_eq_some_iff.mp hi;have hz0:=hn z (mem_of_getElem? hz);ac_rfl;rw[take_snoc hz,foldl_append];refine⟨?_,some (.int z),?_⟩
  ·show 0<=bits xor _ _;unfold bits;exact natCast_nonneg _
  ·show[_,some (V.int (Builtin.bitXor _ z)),_]=_;rw[Bit.Oa h0 hz0];rfl
 ·rintro σ Z ⟨rfl,_,v,rfl⟩;ac_rfl;rw[length_map,take_length];exact q _ rfl
abbrev vN (l:List Nat):List V:=l.map λn:Nat=>V.int n
abbrev vI (l:List Int):List V:=l.map V.int
theorem xu {l:List Nat}{i:Nat}{x:V}(h:(vN l)[i]? =some x):∃n:Nat,x=.int n/\l[i]? =some n:=by
 rw[getElem?_map] at h;obtain⟨n,hn,rfl⟩:=map_eq_some_iff.mp h;exact⟨n,rfl,hn⟩
theorem jq {l:List Int}{i:Nat}{x:V}(h:(vI l)[i]? =some x):∃n:Int,x=.int n/\l[i]? =some n:=by
 rw[getElem?_map] at h;obtain⟨n,hn,rfl⟩:=map_eq_some_iff.mp h;exact⟨n,rfl,hn⟩
theorem tZ {α β:Type}(l:List α)(f:α->β)(d:β):((range l.length).map λi=>(l[i]?.map f).getD d)=l.map f:=by
 apply ext_getElem?;intro i;rw[getElem?_map,getElem?_map];by_cases h:i<l.length
 ·rw[getElem?_range h,getElem?_eq_getElem h];simp[getElem?_eq_getElem h]
 ·rw[getElem?_eq_none (by simpa using h),getElem?_eq_none (by lia)];rfl
inductive spEach (K:Frag)(a:Ad)(g:Arith->Nat->V)(vs:List V)(H:Hp)(Q:VK)(E:XK):Prop where
 |mk (p l:Addr) (k m:Nat) (A:Arith) (ws:List Nat) (cI:vs=[.ref p,.ref l]) (cJ:dO a H p k m) (cQ:arith k m=some A) (dH:aF K H l (vN ws)) (fC:(∀x∈ws,x<18446744073709551616)) (gF:ws.length<=100000) (iQ:∀D Z,H D=none->aA H Z->Z D=some (.aB (ws.map (g A)))->Q (.ref D) Z)
theorem ou (G:aU K mg a):bI P w K mg aq "meanings_of" a.Eh 2 ["arithmetic","words"] (spEach K a λA x=>.int (A.mean x)):=G.QC.bx λfd F=>by
 refine F.ok rH (λvs H Q E h=>?_) (λz A z s H vs Q E hr h=>?_)
 ·obtain⟨p,l,k,m,A,ws,rfl,_⟩:=h;rfl
 obtain⟨p,l,k,m,A,ws,rfl,hA,O,hl,hw,hn,q⟩:=h;refine⟨_,(ak (aG (lW (own:=[("word",2)]) rfl rH.nd (fj aR) (eG (N:=["arithmetic","words","word"]) (sc:=bV (aM 41)) (by decide+kernel)) (λz z z z z=>(bM (i:=2) rH.nd rfl (Or.inl rfl))) (λz z z z z=>gj) (λz z z z z=>(aD (lN G) (bB aK bf)))))),?_⟩;ac_rfl;refine⟨l,rfl,⟨_,hl⟩,RB (λi=>(ws[i]?.map λx=>.int (A.mean x)).getD .non) hl (by rw[length_map];exact lt_of_le_of_lt hn (by decide)) (λv=>rfl) ?_ ?_⟩
 ·intro i x Z N hx s1 hN;obtain⟨n,rfl,hx'⟩:=xu hx;ac_rfl;refine⟨p,k,m,A,n,rfl,hA.same s1,O,hw n (mem_of_getElem? hx'),?_⟩;have:=hN Z (aA.refl _);rw[hx'] at this;exact this
 ·intro D Z nD s1 hD;rw[length_map,tZ] at hD;exact q D Z nD s1 hD
inductive spAre (K:Frag)(a:Ad)(vs:List V)(H:Hp)(Q:VK)(E:XK):Prop where
 |mk (p l:Addr) (k m:Nat) (A:Arith) (ws:List Nat) (cI:vs=[.ref p,.ref l]) (cJ:dO a H p k m) (cQ:arith k m=some A) (dH:aF K H l (vN ws)) (fC:(∀x∈ws,x<18446744073709551616)) (gF:ws.length<=100000) (iQ:∀Z,aA H Z->Q (.bl (ws.all A.number)) Z)
theorem uQ (G:aU K mg a):bI P w K mg aq "are_numbers" a.Ef 2 ["arithmetic","words"] (spAre K a):=G.QB.bx λfd F=>by
 refine F.ok rG (λvs H Q E h=>?_) (λz A z s H vs Q E hr h=>?_)
 ·obtain⟨p,l,k,m,A,ws,rfl,_⟩:=h;rfl
 obtain⟨p,l,k,m,A,ws,rfl,hA,O,hl,hw,hn,q⟩:=h;refine⟨_,(ak (aG (cF (cr_all rfl) (by rfl) G.b_all boot_all (bG (lW (own:=[("word",2)]) rfl rG.nd (fj aR) (eG (N:=["arithmetic","words","word"]) (sc:=bV (aM 39)) (by decide+kernel)) (λz z z z z=>(bM (i:=2) rG.nd rfl (Or.inl rfl))) (λz z z z z=>gj) (λz z z z z=>(aD (Ib G) (bB aK bf)))))))),?_⟩;ac_rfl;refine⟨l,rfl,⟨_,hl⟩,RB (λi=>(ws[i]?.map λx=>.bl (A.number x)).getD .non) hl (by rw[length_map];exact lt_of_le_of_lt hn (by decide)) (λv=>rfl) ?_ ?_⟩
 ·intro i x Z N hx s1 hN;obtain⟨n,rfl,hx'⟩:=xu hx;ac_rfl;refine⟨p,k,m,A,n,rfl,hA.same s1,O,hw n (mem_of_getElem? hx'),?_⟩;have:=hN Z (aA.refl _);rw[hx'] at this;exact this
 ·intro D Z nD s1 hD;rw[length_map,tZ] at hD;refine⟨D,ws.map A.number,rfl,?_,?_⟩
  ·rw[map_map];exact aF.of hD
  ·have e:(ws.map A.number).all id=ws.all A.number:=by rw[List.all_map];rfl
   rw[e];exact q Z s1
inductive spWords (K:Frag)(a:Ad)(vs:List V)(H:Hp)(Q:VK)(E:XK):Prop where
 |mk (p l:Addr) (k m:Nat) (A:Arith) (zs:List Int) (cI:vs=[.ref p,.ref l]) (cJ:dO a H p k m) (cQ:arith k m=some A) (dH:aF K H l (vI zs)) (fC:(∀z∈zs,Ar.Dom k z)) (gF:zs.length<=100000) (iQ:(allOf A.word zs=none->∀Z,aA H Z->Q .non Z)) (kE:∀ws D Z,allOf A.word zs=some ws->H D=none->aA H Z->Z D=some (.aB (vN ws))->Q (.ref D) Z)
theorem ZM {A:Arith}:∀{zs:List Int},allOf A.word zs=none->((zs.map (jo A)).any λy=>Kh y .non)=true
 |[],h=>by cases h
 |z::zs,h=>by
  rw[cZ.d7] at h;rw[map_cons,any_cons];unfold jo;cases e:A.word z with
  |none=>rfl
  |some w=>
   rw[e] at h;cases e2:allOf A.word zs with
   |none=>have:=ZM e2;unfold jo at this;rw[this];simp
   |some r=>rw[e2] at h;cases h
theorem W9 {A:Arith}:∀{zs:List Int}{ws:List Nat},allOf A.word zs=some ws->((zs.map (jo A)).any λy=>Kh y .non)=false/\zs.map (jo A)=vN ws
 |[],ws,h=>by injection h with h;subst h;exact⟨rfl,rfl⟩
 |z::zs,ws,h=>by
  rw[cZ.d7] at h;rw[map_cons,any_cons];cases e:A.word z with
  |none=>rw[e] at h;cases h
  |some w=>
   cases e2:allOf A.word zs with
   |none=>rw[e,e2] at h;cases h
   |some r=>
    rw[e,e2] at h;injection h with h;subst h
    obtain⟨h1,h2⟩:=W9 e2;rw[h1,h2];have ew:jo A z=.int w:=by unfold jo;rw[e]
    rw[ew];exact⟨rfl,rfl⟩
theorem flat_words {A:Arith}(zs:List Int):(zs.map (jo A)).all vh=true:=by
 rw[all_eq_true];intro v hv;obtain⟨z,_,rfl⟩:=mem_map.mp hv;unfold jo;cases A.word z<;>rfl
theorem OJ (G:aU K mg a):bI P w K mg aq "words_of" a.Ol 2 ["arithmetic","meanings"] (spWords K a):=G.YH.bx λfd F=>by
 refine F.ok zE (λvs H Q E h=>?_) (λz A z s H vs Q E hr h=>?_)
 ·obtain⟨p,l,k,m,A,zs,rfl,_⟩:=h;rfl
 obtain⟨p,l,k,m,A,zs,rfl,hA,O,hl,hd,hn,q1,q2⟩:=h;refine⟨_,(aC (Ci (i:=2) (own:=[("meaning",3)]) rfl zE.nd rfl rfl (Ji rfl rfl rfl rfl) (fj aR) (eG (N:=["arithmetic","meanings","words","meaning"]) (sc:=bV (aM 43)) (by decide+kernel)) (λz z z z z=>(bM (i:=3) zE.nd rfl (Or.inl rfl))) (λz z z z z=>gj) (λz z z z z=>(aD (Sx G) (bB aK bF))))
   (ak (aG (iB (Y4 op_in_seq mX bf rfl) mX bf)))),?_⟩
 ac_rfl;refine⟨l,rfl,⟨_,hl⟩,RB (λi=>(zs[i]?.map λx=>jo A x).getD .non) hl (by rw[length_map];exact lt_of_le_of_lt hn (by decide)) (λv=>rfl) ?_ ?_⟩
 ·intro i x Z N hx s1 hN;obtain⟨n,rfl,hx'⟩:=jq hx;ac_rfl;refine⟨p,k,m,A,n,rfl,hA.same s1,O,hd n (mem_of_getElem? hx'),?_⟩;have:=hN Z (aA.refl _);rw[hx'] at this;exact this
 ·intro D Z nD s1 hD;rw[length_map,tZ] at hD;ac_rfl;refine⟨D,_,rfl,.inl (aF.of hD),rfl,flat_words zs,?_⟩;ac_rfl;unfold inV;cases e:allOf A.word zs with
  |none=>
   rw[ZM e];rw[if_pos (by decide)];exact q1 e Z s1
  |some ws=>
   obtain⟨h1,h2⟩:=W9 e;rw[h1];rw[if_neg (by decide)];rw[h2] at hD;exact q2 ws D Z e nD s1 hD
inductive U3 (a:Ad)(g:Nat->Arith->V)(vs:List V)(H:Hp)(Q:VK)(E:XK):Prop where
 |mk (p:Addr) (k m:Nat) (A:Arith) (cI:vs=[.ref p]) (cJ:dO a H p k m) (cQ:arith k m=some A) (dH:Q (g k A) H)
theorem Ig {g}:∀vs H Q E,U3 a g vs H Q E->vs.length=1:=by
 rintro vs H Q E ⟨p,k,m,A,rfl,_⟩;rfl
theorem Uo (G:aU K mg a):bI P w K mg aq "always_fits" a.Ei 1 ["arithmetic"] (U3 a λk z=>.bl (decide (k≠2))):=G.QD.bx λfd F=>by
 refine F.ok Qm Ig (λz A z s H vs Q E hr h=>?_);obtain⟨p,k,m,A,rfl,hA,O,q⟩:=h;refine⟨_,(ak (aG (fU (Mx (aQ aK rfl) (bL rfl G.WM))))),?_⟩;simp_arith! [jN G hA];have e:(!decide ((k:Int)=2))=decide (k≠2):=by rw[Bool.eq_iff_iff];simp;lia
 rw[e];exact q
theorem Sy (G:aU K mg a):bI P w K mg aq "none_of" a.RX 1 ["arithmetic"] (U3 a λz A=>.int A.none_):=G.fn_none_of.bx λfd F=>by
 refine F.ok sc_none_of Ig (λz A z s H vs Q E hr h=>?_);obtain⟨p,k,m,A,rfl,hA,O,q⟩:=h;refine⟨_,(ak (aG (aJ bT (jc rfl G.NONE) (aQ aK rfl) (λz z=>rfl)))),?_⟩;simp_arith! [jN G hA];rcases Ar.cV O with⟨rfl,rfl,rfl⟩|⟨rfl,m1,m2,rfl⟩|⟨rfl,rfl,rfl⟩|⟨rfl,rfl,rfl⟩|⟨rfl,rfl,rfl⟩|⟨rfl,rfl,rfl⟩|⟨rfl,rfl,rfl⟩|⟨rfl,m2,rfl⟩<;>exact bw (G.s_NONE H) rfl q
theorem Mp (G:aU K mg a):bI P w K mg aq "one_of" a.Wz 1 ["arithmetic"] (U3 a λz A=>.int A.one):=G.fn_one_of.bx λfd F=>by
 refine F.ok sc_one_of Ig (λz A z s H vs Q E hr h=>?_);obtain⟨p,k,m,A,rfl,hA,O,q⟩:=h;refine⟨_,(ak (aG (aJ bT (jc rfl G.ONE) (aQ aK rfl) (λz z=>rfl)))),?_⟩;simp_arith! [jN G hA];rcases Ar.cV O with⟨rfl,rfl,rfl⟩|⟨rfl,m1,m2,rfl⟩|⟨rfl,rfl,rfl⟩|⟨rfl,rfl,rfl⟩|⟨rfl,rfl,rfl⟩|⟨rfl,rfl,rfl⟩|⟨rfl,rfl,rfl⟩|⟨rfl,m2,rfl⟩<;>exact bw (G.s_ONE H) rfl q
theorem Ih (T:Int):∀ns:List Int,ns.foldr min T<=T/\(∀y∈ns,ns.foldr min T<=y)/\(ns.foldr min T=T\/ns.foldr min T∈ns)
 |[]=>⟨Int.le_refl _,λy hy=>by simp at hy,.inl rfl⟩
 |x::ns=>by
  obtain⟨h1,h2,h3⟩:=Ih T ns;rw[List.foldr_cons];refine⟨by lia,λy hy=>?_,?_⟩
  ·rcases mem_cons.mp hy with rfl|hy
   ·lia
   ·have:=h2 y hy;lia
  ·by_cases e:x<=ns.foldr min T
   ·right;rw[Int.min_eq_left e];exact mem_cons_self
   ·rw[min_eq_right (by lia)];rcases h3 with h3|h3
    ·exact .inl h3
    ·exact .inr (mem_cons_of_mem _ h3)
theorem SJ:∀ns:List Int,0<=ns.foldr max 0/\(∀y∈ns,y<=ns.foldr max 0)/\(ns.foldr max 0=0\/ns.foldr max 0∈ns)
 |[]=>⟨Int.le_refl _,λy hy=>by simp at hy,.inl rfl⟩
 |x::ns=>by
  obtain⟨h1,h2,h3⟩:=SJ ns;rw[List.foldr_cons];refine⟨by lia,λy hy=>?_,?_⟩
  ·rcases mem_cons.mp hy with rfl|hy
   ·lia
   ·have:=h2 y hy;lia
  ·by_cases e:ns.foldr max 0<=x
   ·right;rw[Int.max_eq_left e];exact mem_cons_self
   ·rw[Int.max_eq_right (by lia)];rcases h3 with h3|h3
    ·exact .inl h3
    ·exact .inr (mem_cons_of_mem _ h3)
structure Rz (k:Nat)(A:Arith)(z t:Int):Prop where
 d:Ar.Dom k z
 w:A.word z=A.word t
 e:k≠3->z=t
theorem Rz.of {k m:Nat}{A:Arith}{z:Int}(d:Ar.Dom k z):Rz k A z z:=⟨d,rfl,λy=>rfl⟩
def tot (k:Nat)(A:Arith)(ns:List Int):Int:=if k=3 then(match ns with|[]=>18446744073709551615|x::r=>r.foldl min x) else A.total ns
theorem nG {k:Nat}{A:Arith}{ns:List Int}(h:k≠3):tot k A ns=A.total ns:=if_neg h
theorem foldl_min:∀(r:List Int) (x:Int),(r.foldl min x=x\/r.foldl min x∈r)/\r.foldl min x<=x/\∀y∈r,r.foldl min x<=y
 |[],x=>⟨.inl rfl,Int.le_refl _,λy hy=>by simp at hy⟩
 |a::r,x=>by
  rw[foldl_cons];obtain⟨h1,h2,h3⟩:=foldl_min r (min x a);refine⟨?_,by lia,λy hy=>?_⟩
  ·rcases h1 with h1|h1
   ·by_cases e:x<=a
    ·left;rw[h1];lia
    ·right;rw[h1,min_eq_right (by lia)];exact mem_cons_self
   ·exact .inr (mem_cons_of_mem _ h1)
  ·rcases mem_cons.mp hy with rfl|hy
   ·lia
   ·exact h3 y hy
theorem tot3 {A:Arith}{ns:List Int}{z:Int}(h:ns=[]/\z=18446744073709551615\/z∈ns/\∀y∈ns,z<=y):z=tot 3 A ns:=by
 unfold tot;rw[if_pos rfl];rcases h with⟨rfl,rfl⟩|⟨h1,h2⟩
 ·rfl
 ·cases ns with
  |nil=>simp at h1
  |cons x r=>
   show z=r.foldl min x;obtain⟨g1,g2,g3⟩:=foldl_min r x;have a1:r.foldl min x<=z:=by
    rcases mem_cons.mp h1 with rfl|h1
    ·exact g2
    ·exact g3 z h1
   have a2:z<=r.foldl min x:=by
    rcases g1 with g1|g1
    ·rw[g1];exact h2 x mem_cons_self
    ·exact h2 _ (mem_cons_of_mem _ g1)
   lia
inductive spSumOf (K:Frag)(a:Ad)(vs:List V)(H:Hp)(Q:VK)(E:XK):Prop where
 |mk (p l:Addr) (k m:Nat) (A:Arith) (ns:List Int) (cI:vs=[.ref p,.ref l]) (cJ:dO a H p k m) (cQ:arith k m=some A) (dH:aF K H l (vI ns)) (fC:(∀z∈ns,Ar.Dom k z)) (gF:∀z,z=tot k A ns->Rz k A z (A.total ns)->Q (.int z) H)
theorem xG (G:aU K mg a):bI P w K mg aq "sum_of" a.Wy 2 ["arithmetic","meanings"] (spSumOf K a):=G.fn_sum_of.bx λfd F=>by
 refine F.ok sc_sum_of (λvs H Q E h=>?_) (λv A v s H vs Q E hr h=>?_)
 ·obtain⟨p,l,k,m,A,ns,rfl,_⟩:=h;rfl
 obtain⟨p,l,k,m,A,ns,rfl,hA,O,hl,hd,q⟩:=h;refine⟨_,(ak (aG (jT (aJ bT (jc rfl G.SUMS) (aQ aK rfl) (λv v=>rfl)) (bG aR)))),?_⟩;simp_arith! [jN G hA,qz G hA];have dt:Ar.Dom k (A.total ns):=Vl.oZ O ns hd;have nn:3<=k->∀x∈ns,0<=x:=λh x hx=>gR h (hd x hx);have eT:TOP=18446744073709551615:=by decide
 have left:=Ar.pR O ns;rcases Ar.cV O with⟨rfl,rfl,rfl⟩|⟨rfl,m1,m2,rfl⟩|⟨rfl,rfl,rfl⟩|⟨rfl,rfl,rfl⟩|⟨rfl,rfl,rfl⟩|⟨rfl,rfl,rfl⟩|⟨rfl,rfl,rfl⟩|⟨rfl,m2,rfl⟩
 ·exact bw (G.tM H) rfl (aY (xr G) hr ⟨l,ns,rfl,hl,trivial,λz hz=>q z (by rw[nG (by decide)];exact hz) (by subst hz;exact Rz.of (m:=0) dt)⟩)
 ·exact bw (G.tM H) rfl (aY (xr G) hr ⟨l,ns,rfl,hl,trivial,λz hz=>q z (by rw[nG (by decide)];exact hz) (by subst hz;exact Rz.of (m:=0) dt)⟩)
 ·exact bw (G.tM H) rfl (aY (xr G) hr ⟨l,ns,rfl,hl,trivial,λz hz=>q z (by rw[nG (by decide)];exact hz) (by subst hz;exact Rz.of (m:=0) dt)⟩)
 ·refine bw (G.tM H) rfl (aY (QS G) hr ⟨l,ns,rfl,hl,trivial,λz hz=>q z (tot3 hz) ?_⟩);obtain⟨f1,f2,f3⟩:=Ih TOP ns;have e:min (ns.foldr min TOP) TOP=min z TOP:=by
   rcases hz with⟨rfl,rfl⟩|⟨h1,h2⟩
   ·rw[eT];rfl
   ·have a1:=f2 z h1;rcases f3 with f3|f3
    ·lia
    ·have:=h2 _ f3;lia
  refine⟨Ar.rC.mpr ?_,?_,λh=>absurd rfl h⟩
  ·rcases hz with⟨rfl,rfl⟩|⟨h1,h2⟩
   ·decide
   ·exact nn (by lia) z h1
  ·show some (min z TOP).toNat=some (min (ns.foldr min TOP) TOP).toNat;rw[e]
 ·refine bw (G.tM H) rfl (aY (Kc G) hr ⟨l,ns,rfl,hl,trivial,λz hz=>?_⟩);obtain⟨f1,f2,f3⟩:=SJ ns;have e:z=ns.foldr max 0:=by
   rcases hz with⟨rfl,rfl⟩|⟨h1,h2⟩
   ·rfl
   ·have a1:=f2 z h1;have a2:=nn (by lia) z h1;rcases f3 with f3|f3
    ·lia
    ·have:=h2 _ f3;lia
  have e:z=(GridTalk.lanes (λ(x y:Int)=>max x y) (λ(x y:Int)=>min x y) 0 TOP none).total ns:=e;exact q z (by rw[nG (by decide)];exact e) (by rw[e];exact Rz.of (m:=0) dt)
 ·refine bw (G.tM H) rfl (aY (W8 G) hr ⟨l,ns,rfl,hl,nn (by lia),λz hz=>?_⟩);have e:z=(GridTalk.lanes (bits lor) (bits land) 0 TOP none).total ns:=by rw[left];exact hz
  exact q z (by rw[nG (by decide)];exact e) (by rw[e];exact Rz.of (m:=0) dt)
 ·refine bw (G.tM H) rfl (aY (Ie G) hr ⟨l,ns,rfl,hl,nn (by lia),λz hz=>?_⟩);have e:z=(GridTalk.lanes (bits xor) (bits land) 0 TOP (some (bits xor))).total ns:=by rw[left];exact hz
  exact q z (by rw[nG (by decide)];exact e) (by rw[e];exact Rz.of (m:=0) dt)
 ·refine bw (G.tM H) rfl (aY (Ie G) hr ⟨l,ns,rfl,hl,nn (by lia),λz hz=>?_⟩);have e:z=(GridTalk.lanes (bits xor) (bits (GridTalk.fieldTimes m)) 0 1 (some (bits xor))).total ns:=by rw[left];exact hz
  exact q z (by rw[nG (by decide)];exact e) (by rw[e];exact Rz.of (m:=0) dt)
theorem xH (l:List Int){n:Nat}(h:l.length=n):((range n).map λi=>V.int (l.getD i 0))=vI l:=by
 subst h;apply ext_getElem?;intro i;rw[getElem?_map,getElem?_map];by_cases h:i<l.length
 ·rw[getElem?_range h];simp[getElem?_eq_getElem h]
 ·rw[getElem?_eq_none (by simpa using h),getElem?_eq_none (by lia)];rfl
theorem xJ {f:Int->Int->Int}{xs ys:List Int}{i:Nat}{x y:Int}(hx:xs[i]? =some x)(hy:ys[i]? =some y):(zipWith f xs ys).getD i 0=f x y:=by
 rw[getD_eq_getElem?_getD,List.getElem?_zipWith,hx,hy];rfl
theorem zip_mem {f:Int->Int->Int}{C:Int->Prop}{xs ys:List Int}(h:∀(i:Nat) (x y:Int),xs[i]? =some x->ys[i]? =some y->C (f x y)):∀z∈zipWith f xs ys,C z:=by
 intro z hz;obtain⟨i,hi⟩:=List.getElem?_of_mem hz;rw[List.getElem?_zipWith] at hi;cases hx:xs[i]? with
 |none=>rw[hx] at hi;cases hi
 |some x=>
  cases hy:ys[i]? with
  |none=>rw[hx,hy] at hi;cases hi
  |some y=>rw[hx,hy] at hi;injection hi with hi;subst hi;exact h i x y hx hy
inductive spDot (K:Frag)(a:Ad)(vs:List V)(H:Hp)(Q:VK)(E:XK):Prop where
 |mk (p l1 l2:Addr) (k m:Nat) (A:Arith) (xs ys:List Int) (cI:vs=[.ref p,.ref l1,.ref l2]) (cJ:dO a H p k m) (cQ:arith k m=some A) (dH:m<18446744073709551616) (fC:aF K H l1 (vI xs)) (gF:aF K H l2 (vI ys)) (iQ:xs.length=ys.length) (kE:xs.length<=100000) (ud:(∀x∈xs,Ar.Dom k x)) (Bm:(∀y∈ys,Ar.Dom k y)) (zP:(k<=2->∀x∈xs, -(2^64)<x/\x<2^64)) (Ii:∀z Z,z=tot k A (zipWith A.times xs ys)->Rz k A z (A.total (zipWith A.times xs ys))->aA H Z->Q (.int z) Z)
theorem u9 (G:aU K mg a):bI P w K mg aq "sum_of_products" a.uY 3 ["arithmetic","xs","ys"] (spDot K a):=G.Hz.bx λfd F=>by
 refine F.ok dG (λvs H Q E h=>?_) (λt A t s H vs Q E hr h=>?_)
 ·obtain⟨p,l1,l2,k,m,A,xs,ys,rfl,_⟩:=h;rfl
 obtain⟨p,l1,l2,k,m,A,xs,ys,rfl,hA,O,hm,h1,h2,hxy,hn,dx,dy,hc,q⟩:=h;have hz:xs.length=(zipWith A.times xs ys).length:=by rw[List.length_zipWith];lia
 have dz:∀z∈zipWith A.times xs ys,Ar.Dom k z:=zip_mem λi x y hx hy=>Ar.dX O _ _ (dx x (mem_of_getElem? hx)) (dy y (mem_of_getElem? hy));refine⟨_,(aC (ps_set (i:=3) dG.nd rfl (Or.inr rfl) (aQ aK rfl))
   (aC (cC (bY (dD bF (bL rfl G.nA))) (ak (aG (aD (xG G) (bB aK (lW (own:=[("x",4),("y",5)]) rfl dG.nd (sU rfl G.yJ (bB aR bf)) (eG (N:=["arithmetic","xs","ys","kind","x","y"]) (sc:=bV (aM 48)) (by decide+kernel)) (λt t t t t=>(z8 (K:=K) (n:=2) rfl rfl (dZ (bM (i:=4) dG.nd rfl (Or.inl rfl)) (dZ (bM (i:=5) dG.nd rfl (Or.inl rfl)) lV)))) (λt t t t t=>gj) (λt t t t t=>(aD (qw G) (bC cM (bB iV (z7 (K:=K) rfl aK rfl)))))))))) bN)
   (ak (aG (aD (xG G) (bB aK (lW (own:=[("x",4),("y",5)]) rfl dG.nd (sU rfl G.yJ (bB aR bf)) (eG (N:=["arithmetic","xs","ys","kind","x","y"]) (sc:=bV (aM 48)) (by decide+kernel)) (λt t t t t=>(z8 (K:=K) (n:=2) rfl rfl (dZ (bM (i:=4) dG.nd rfl (Or.inl rfl)) (dZ (bM (i:=5) dG.nd rfl (Or.inl rfl)) lV)))) (λt t t t t=>gj) (λt t t t t=>(pe_callVK (K:=K) hr ⟨rfl,rfl,rfl,rfl,rfl,rfl⟩ (aJ (ix_tupK (K:=K) rfl) (jc rfl G.TIMES) bF (λt t=>rfl)) (bB cM iV)))))))))),?_⟩
 simp_arith! [jN G hA,qz G hA];by_cases h7:k=7
 ·rw[if_pos (by lia)];refine⟨l1,l2,_,_,rfl,h1,h2,lcZ (λi=>V.int ((zipWith A.times xs ys).getD i 0)) h1 h2 (by rw[length_map,length_map];exact hxy) (by rw[length_map];exact lt_of_le_of_lt hn (by decide)) (λv u=>rfl) ?_ ?_⟩
  ·intro i x y Z N hx hy s1 hN;obtain⟨x,rfl,hx1⟩:=jq hx;obtain⟨y,rfl,hy1⟩:=jq hy;have:=hN Z (aA.refl _);rw[xJ hx1 hy1] at this;simp_arith! [qz G (hA.same s1)];subst h7;rcases Ar.cV O with⟨e,_⟩|⟨e,_⟩|⟨e,_⟩|⟨e,_⟩|⟨e,_⟩|⟨e,_⟩|⟨e,_⟩|⟨_,m2,rfl⟩<;>first|(exact absurd e (by decide))|skip
   have hx:=(Ar.fO (by lia)).mp (dx x (mem_of_getElem? hx1));have hy:=(Ar.fO (by lia)).mp (dy y (mem_of_getElem? hy1));refine⟨x.toNat,y.toNat,m,?_,by lia,m2,this⟩;have e1:((x.toNat:Nat):Int)=x:=by lia
   have e2:((y.toNat:Nat):Int)=y:=by lia
   rw[e1,e2]
  ·intro D Z nD s1 hD;rw[length_map,xH _ hz.symm] at hD;ac_rfl;exact⟨p,D,k,m,A,_,rfl,hA.same s1,O,aF.of hD,dz,λz ht hz=>q z Z ht hz s1⟩
 ·rw[if_neg (by lia)];refine⟨l1,l2,_,_,rfl,h1,h2,lcZ (λi=>V.int ((zipWith A.times xs ys).getD i 0)) h1 h2 (by rw[length_map,length_map];exact hxy) (by rw[length_map];exact lt_of_le_of_lt hn (by decide)) (λv u=>rfl) ?_ ?_⟩
  ·intro i x y Z N hx hy s1 hN;obtain⟨x,rfl,hx1⟩:=jq hx;obtain⟨y,rfl,hy1⟩:=jq hy;have qq:=hN Z (aA.refl _);rw[xJ hx1 hy1] at qq;ac_rfl;have hx:=mem_of_getElem? hx1;have hy:=mem_of_getElem? hy1;have cm:k<=2->zj x y:=λh=>.inl (hc h x hx);have nn:3<=k->0<=x/\0<=y:=λh=>⟨gR h (dx x hx),gR h (dy y hy)⟩;rcases Ar.cV O with⟨rfl,rfl,rfl⟩|⟨rfl,m1,m2,rfl⟩|⟨rfl,rfl,rfl⟩|⟨rfl,rfl,rfl⟩|⟨rfl,rfl,rfl⟩|⟨rfl,rfl,rfl⟩|⟨rfl,rfl,rfl⟩|⟨rfl,m2,rfl⟩
   ·exact bw (G.iu Z) rfl (aY (iw G) hr.mono ⟨_,_,rfl,cm (by lia),qq⟩)
   ·exact bw (G.iu Z) rfl (aY (iw G) hr.mono ⟨_,_,rfl,cm (by lia),qq⟩)
   ·exact bw (G.iu Z) rfl (aY (iw G) hr.mono ⟨_,_,rfl,cm (by lia),qq⟩)
   ·exact bw (G.iu Z) rfl (aY (nF G) hr.mono ⟨_,_,rfl,trivial,qq⟩)
   ·exact bw (G.iu Z) rfl (aY (Mj G) hr.mono ⟨_,_,rfl,trivial,qq⟩)
   ·exact bw (G.iu Z) rfl (aY (Oz G) hr.mono ⟨_,_,rfl,nn (by lia),qq⟩)
   ·exact bw (G.iu Z) rfl (aY (Oz G) hr.mono ⟨_,_,rfl,nn (by lia),qq⟩)
   ·exact absurd rfl h7
  ·intro D Z nD s1 hD;rw[length_map,xH _ hz.symm] at hD;ac_rfl;exact⟨p,D,k,m,A,_,rfl,hA.same s1,O,aF.of hD,dz,λz ht hz=>q z Z ht hz s1⟩
theorem bQ {xs:List V}{v:V}(h:xs[0]? =some v):vX xs 0=some v:=dU (j:=0) h
theorem cT {xs:List V}{v:V}(h:xs[1]? =some v):vX xs 1=some v:=dU (j:=1) h
inductive spSide (vs:List V)(H:Hp)(Q:VK)(E:XK):Prop where
 |mk (n:Nat) (cI:vs=[.int n]) (cJ:Q (.bl (sized n)) H)
theorem jr (G:aU K mg a):bI P w K mg aq "is_side" a.R3 1 ["length"] spSide:=G.fn_is_side.bx λfd F=>by
 refine F.ok sc_is_side (λvs H Q E h=>?_) (λz A z s H vs Q E hr h=>?_)
 ·obtain⟨n,rfl,_⟩:=h;rfl
 obtain⟨n,rfl,q⟩:=h;refine⟨_,(ak (aG (Vk Uy Uy au aK (bL rfl G.WQ)))),?_⟩;ac_rfl;by_cases h1:1<=n
 ·rw[if_pos (by lia)];have e:decide ((n:Int)<=16)=sized n:=by
   unfold sized;rw[decide_eq_true h1,Bool.true_and];exact decide_eq_decide.mpr (by show _↔n<=16;lia)
  rw[e];exact q
 ·rw[if_neg (by lia)];have e:sized n=false:=by
   unfold sized;rw[decide_eq_false h1,Bool.false_and]
  rw[e] at q;exact q
def En (h c:Nat)(e:Addr):List (Str×V):=bA "entries" (.ref e) (bA "width" (.int c) (bA "height" (.int h) []))
theorem grF_h (h c:Nat)(e:Addr):(En h c e).lookup ("height":Str)=some (.int h):=by
 unfold En;rw[aP,if_neg (by decide+kernel),aP,if_neg (by decide+kernel),aP,if_pos rfl]
theorem grF_w (h c:Nat)(e:Addr):(En h c e).lookup ("width":Str)=some (.int c):=by
 unfold En;rw[aP,if_neg (by decide+kernel),aP,if_pos rfl]
theorem grF_e (h c:Nat)(e:Addr):(En h c e).lookup ("entries":Str)=some (.ref e):=by
 unfold En;rw[aP,if_pos rfl]
def qD (a:Ad)(H:Hp)(q:Addr)(h c:Nat)(e:Addr):Prop:=∃dx,H q=some (.ins a.kh dx (En h c e))
theorem qD.same {H Z:Hp}{q:Addr}{h c:Nat}{e:Addr}(x:qD a H q h c e)(s:aA H Z):qD a Z q h c e:=let ⟨dx,z⟩:=x;⟨dx,s _ _ z⟩
theorem oO (G:aU K mg a){H:Hp}{q:Addr}{h c:Nat}{e:Addr}(x:qD a H q h c e){Q:VK}:gn K "height" (.ref q) H Q↔Q (.int h) H:=by
 obtain⟨dx,z⟩:=x;exact dJ z G.vR G.El (grF_h h c e)
theorem mz (G:aU K mg a){H:Hp}{q:Addr}{h c:Nat}{e:Addr}(x:qD a H q h c e){Q:VK}:gn K "width" (.ref q) H Q↔Q (.int c) H:=by
 obtain⟨dx,z⟩:=x;exact dJ z G.vR G.Ht (grF_w h c e)
theorem cU (G:aU K mg a){H:Hp}{q:Addr}{h c:Nat}{e:Addr}(x:qD a H q h c e){Q:VK}:gn K "entries" (.ref q) H Q↔Q (.ref e) H:=by
 obtain⟨dx,z⟩:=x;exact dJ z G.vR G.Ay (grF_e h c e)
inductive Mq (a:Ad)(vs:List V)(H:Hp)(Q:VK)(E:XK):Prop where
 |mk (p dx e:Addr) (h c:Nat) (cI:vs=[.ref p,.int h,.int c,.ref e]) (cJ:H p=some (.ins a.kh dx [])) (cQ:∀Z:Hp,Z p=some (.ins a.kh dx (En h c e))->But [p] H Z->Q .non Z)
theorem xK (G:aU K mg a):Nm P w K mg aq "Grid" a.kh 1 ["self","height","width","entries"] (Mq a):=G.WY.bx λfd F=>by
 refine F.ok Wr (λvs H Q E h=>?_) (λz A z s H vs Q E hr h=>?_)
 ·obtain⟨p,dx,e,h,c,rfl,_⟩:=h;rfl
 obtain⟨p,dx,e,h,c,rfl,hp,q⟩:=h;refine⟨_,(aC (fH aK aR rfl) (aC (fH aK bf rfl) (ak (fH aK bF rfl)))),?_⟩;ac_rfl;rw[cY hp G.vR G.El (by decide)];ac_rfl;rw[cY ao G.vR G.Ht (oX _ _)];rw[oW];ac_rfl;rw[cY ao G.vR G.Ay (sW _ _ _ _)];rw[oW];exact q _ ao But.wrote
theorem rR {h c:Nat}{hi ci:Int}{e:Addr}{H:Hp}{Q:Addr->Hp->Prop}(eh:hi=h)(ec:ci=c)(k:∀(p:Addr) (Z:Hp),H p=none->aA H Z->qD a Z p h c e->Q p Z):
  ∀x dx,H x=none->H dx=none->dx≠x->Mq a (.ref x::[.int hi,.int ci,.ref e]) (aN (aN H dx (.own x)) x (.ins a.kh dx [])) (λv H2=>v=.non/\Q x H2) E0:=by
 intro x dx nx nd ne;subst eh ec;refine⟨x,dx,e,h,c,rfl,ao,λZ h' b=>⟨rfl,k x Z nx (λy o z=>?_) ⟨dx,h'⟩⟩⟩;have n1:y≠x:=aW z nx;have n2:y≠dx:=aW z nd;exact b y o (by rw[aO n1,aO n2];exact z) (by simp[n1])
def fl (M:Mat):List Nat:=M.words.flatten
def ms (A:Arith)(M:Mat):List Int:=(fl M).map A.mean
theorem qF {A:Arith}{M:Mat}(h:Vl.WF A M):(fl M).length=M.rows*M.cols/\M.words=rowsOf M.cols M.rows (fl M)/\∀x∈fl M,x<18446744073709551616/\A.number x=true:=by
 obtain⟨l,h1,h2,h3⟩:=h.ex;have e:fl M=l:=by unfold fl;rw[h2];exact cZ.fu _ _ _ h1
 rw[e];exact⟨h1,h2,h3⟩
theorem gC {A:Arith}{M:Mat}(h:Vl.WF A M):(ms A M).length=M.rows*M.cols:=by unfold ms;rw[length_map];exact(qF h).1
theorem iD {A:Arith}{M:Mat}(h:Vl.WF A M):M.rows*M.cols<=256:=by
 have:=mul_le_mul h.r2 h.c2;lia
theorem ZP {A:Arith}{M:Mat}(h:Vl.WF A M):M=⟨M.rows,M.cols,rowsOf M.cols M.rows (fl M)⟩:=by
 have:=(qF h).2.1;cases M;simp only at this⊢;rw[<-this]
theorem O1 {A:Arith}{M:Mat}(h:Vl.WF A M){i j:Nat}(hi:i<M.rows)(hj:j<M.cols):(ms A M)[i*M.cols+j]? =some (M.mean A i j):=by
 have hl:=(qF h).1;have hlt:i*M.cols+j<(fl M).length:=by
  rw[hl];have:(i+1)*M.cols<=M.rows*M.cols:=mul_le_mul_right _ hi;rw[succ_mul] at this;lia
 unfold ms Mat.mean;rw[getElem?_map,getElem?_eq_getElem hlt];have e:M.at_ i j=(fl M).getD (i*M.cols+j) 0:=by
  conv=>lhs;rw[ZP h]
  exact cZ.vP _ _ _ hi hj
 rw[e,getD_eq_getElem?_getD,getElem?_eq_getElem hlt];rfl
theorem nH {k m:Nat}{A:Arith}(O:arith k m=some A){M:Mat}(h:Vl.WF A M):∀z∈ms A M,Ar.Dom k z:=by
 intro z hz;obtain⟨n,hn,rfl⟩:=mem_map.mp hz;exact Ar.eN O _ ((qF h).2.2 n hn).1
theorem xM {k m:Nat}{A:Arith}(O:arith k m=some A){M:Mat}(h:Vl.WF A M):k<=2->∀z∈ms A M, -(2^64)<z/\z<2^64:=by
 intro h2 z hz;obtain⟨n,hn,rfl⟩:=mem_map.mp hz;have hx:=((qF h).2.2 n hn).1;rcases Ar.cV O with⟨rfl,rfl,rfl⟩|⟨rfl,m1,m2,rfl⟩|⟨rfl,rfl,rfl⟩|⟨rfl,rfl,rfl⟩|⟨rfl,rfl,rfl⟩|⟨rfl,rfl,rfl⟩|⟨rfl,rfl,rfl⟩|⟨rfl,m2,rfl⟩
 ·show-(2^64)<(n:Int)/\(n:Int)<2^64;lia
 ·show-(2^64)<(n:Int)/\(n:Int)<2^64;lia
 ·show-(2^64)<signed n/\signed n<2^64;unfold signed;have e1:(WORD:Int)=18446744073709551616:=rfl;have e2:HALF=9223372036854775808:=rfl;rw[e1,e2];split<;>lia
 all_goals lia
structure MG (a:Ad)(A:Arith)(H:Hp)(q:Addr)(M:Mat):Prop where
 wf:Vl.WF A M
 ex:∃e,qD a H q M.rows M.cols e/\H e=some (.aB (vI (ms A M)))
theorem MG.same {A:Arith}{H Z:Hp}{q:Addr}{M:Mat}(h:MG a A H q M)(s:aA H Z):MG a A Z q M:=⟨h.wf,let ⟨e,h1,h2⟩:=h.ex;⟨e,h1.same s,s _ _ h2⟩⟩
def qG (A:Arith)(h c:Nat)(zs:List Int):Option Mat:=(allOf A.word zs).map λws=>⟨h,c,rowsOf c h ws⟩
theorem SM (A:Arith)(h c:Nat)(f:Nat->Nat->Int):qG A h c ((range (h*c)).map λk=>f (k/c) (k%c))=(GridTalk.made A 0 h c f).toOption:=by
 unfold qG;rw[cZ.sY,cZ.tu];cases allOf (λk=>A.word (f (k/c) (k%c))) (range (h*c))<;>rfl
theorem setl_word {A:Arith}{h c:Nat}{zs ts:List Int}(e:zs.map A.word=ts.map A.word):qG A h c zs=qG A h c ts:=by
 unfold qG;have key:∀{zs ts:List Int},zs.map A.word=ts.map A.word->allOf A.word zs=allOf A.word ts:=by
  intro zs
  induction zs with
  |nil=>intro ts e;cases ts with
   |nil=>rfl
   |cons t ts=>cases e
  |cons z zs ih=>intro ts e;cases ts with
   |nil=>cases e
   |cons t ts=>
    rw[map_cons,map_cons] at e;injection e with e1 e2
    rw[cZ.d7,cZ.d7,e1,ih e2]
 rw[key e]
theorem yL {k m:Nat}{A:Arith}(O:arith k m=some A){h c:Nat}{l:List Nat}(hl:∀x∈l,x<18446744073709551616/\A.number x=true):qG A h c (l.map A.mean)=some ⟨h,c,rowsOf c h l⟩:=by
 unfold qG;have:allOf A.word (l.map A.mean)=some l:=by
  rw[cZ.sY]
  induction l with
  |nil=>rfl
  |cons x l ih=>
   have hx:=hl x mem_cons_self;rw[cZ.d7,Pw.pA O hx.1 hx.2,ih λy hy=>hl y (mem_cons_of_mem _ hy)];rfl
 rw[this];rfl
theorem words_ok {k m:Nat}{A:Arith}(O:arith k m=some A):∀{zs:List Int}{ws:List Nat},(∀z∈zs,Ar.Dom k z)->allOf A.word zs=some ws->ws.length=zs.length/\∀x∈ws,x<18446744073709551616/\A.number x=true:=by
 intro zs ws hd h;refine⟨cZ.fZ h,λx hx=>?_⟩;obtain⟨i,hi⟩:=List.getElem?_of_mem hx;have hlt:i<zs.length:=by have:=(List.getElem?_eq_some_iff.mp hi).1;rw[cZ.fZ h] at this;exact this
 have q:=cZ.sZ h (i:=i) (a:=zs[i]) (getElem?_eq_getElem hlt);rw[hi] at q;exact Ar.Zm O _ _ (hd _ (List.getElem_mem hlt)) q
inductive Xc (a:Ad)(vs:List V)(H:Hp)(Q:VK)(E:XK):Prop where
 |mk (p g e:Addr) (k m h c:Nat) (A:Arith) (zs:List Int) (cI:vs=[.ref p,.ref g]) (cJ:dO a H p k m) (cQ:arith k m=some A) (dH:qD a H g h c e) (fC:H e=some (.aB (vI zs))) (gF:(∀z∈zs,Ar.Dom k z)) (iQ:zs.length=h*c) (kE:1<=h) (ud:h<=16) (Bm:1<=c) (zP:c<=16) (Ii:(qG A h c zs=none->∀Z,aA H Z->Q .non Z)) (Xd:∀M q Z,qG A h c zs=some M->M.rows=h->M.cols=c->H q=none->aA H Z->MG a A Z q M->Q (.ref q) Z)
theorem yM (G:aU K mg a):bI P w K mg aq "settled" a.RZ 3 ["arithmetic","grid"] (Xc a):=G.fn_settled.bx λfd F=>by
 have jO:=@xK P w K mg aq a G;refine F.ok Oi (λvs H Q E h=>?_) (λy A y s H vs Q E hr h=>?_)
 ·obtain⟨p,g,e,k,m,h,c,A,zs,rfl,_⟩:=h;rfl
 obtain⟨p,g,e,k,m,h,c,A,zs,rfl,hA,O,hG,he,hd,hz,h1,h2,c1,c2,q1,q2⟩:=h;have Ij:h*c<=256:=by have:=mul_le_mul h2 c2;lia
 refine⟨_,(aC (aX 2 Oi.nd (aD (OJ G) (bB aK (aQ aR rfl)))) (aC (cC (bY (sI bf)) (ak (aG mX)) bN) (ak (aG (iC jO (bC (aQ aR rfl) (bB (aQ aR rfl) (aD (ou G) (bB aK bf))))))))),?_⟩;simp_arith! [cU G hG];refine⟨p,e,k,m,A,zs,rfl,hA,O,aF.of he,hd,by lia,λhn Z s1=>?_,λws D Z hs nD s1 hD=>?_⟩
 ·ac_rfl;simp_arith! [mL];rw[if_pos trivial];exact q1 (by unfold qG;rw[hn];rfl) Z s1
 ·ac_rfl;simp_arith! [mL];rw[if_neg (by intro z;cases z)];simp_arith! [oO G (hG.same s1),mz G (hG.same s1)];obtain⟨hwl,hwk⟩:=words_ok O hd hs;refine⟨p,D,k,m,A,ws,rfl,hA.same s1,O,aF.of hD,λx hx=>(hwk x hx).1,by lia,λE2 H2 nE s2 hE=>?_⟩;ac_rfl;refine rR (h:=h) (c:=c) rfl rfl λg2 H3 ng s3 hG3=>?_;have hM:qG A h c zs=some ⟨h,c,rowsOf c h ws⟩:=by unfold qG;rw[hs];rfl
  have hfl:fl ⟨h,c,rowsOf c h ws⟩=ws:=cZ.fu c h ws (by lia);refine q2 ⟨h,c,rowsOf c h ws⟩ g2 H3 hM rfl rfl (s1.free (s2.free ng)) ((s1.trans s2).trans s3) ⟨⟨h1,h2,c1,c2,ws,by show ws.length=h*c;lia,rfl,hwk⟩,E2,hG3,?_⟩;have:=s3 _ _ hE;rw[this];show some (HO.aB (ws.map λx=>V.int (A.mean x)))=some (.aB (vI (ms A ⟨h,c,rowsOf c h ws⟩)));unfold ms;rw[hfl];show some (HO.aB (ws.map λx=>V.int (A.mean x)))=some (.aB ((ws.map A.mean).map V.int));rw[map_map];rfl
abbrev QT {α:Type}(xs:List α)(c i:Nat):List α:=(xs.drop (i*c)).take c
inductive spRow (a:Ad)(vs:List V)(H:Hp)(Q:VK)(E:XK):Prop where
 |mk (g e:Addr) (h c i:Nat) (xs:List V) (cI:vs=[.ref g,.int i]) (cJ:qD a H g h c e) (cQ:H e=some (.aB xs)) (dH:xs.length=h*c) (fC:i<h) (gF:h<=16) (iQ:∀p Z,aA H Z->H p=none->Z p=some (.aB (QT xs c i))->Q (.ref p) Z)
theorem d_row_of (G:aU K mg a):bI P w K mg aq "row_of" a.WD 1 ["grid","row"] (spRow a):=G.fn_row_of.bx λfd F=>by
 refine F.ok sc_row_of (λvs H Q E h=>?_) (λz A z s H vs Q E hr h=>?_)
 ·obtain⟨g,e,h,c,i,xs,rfl,_⟩:=h;rfl
 obtain⟨g,e,h,c,i,xs,rfl,hG,he,hx,hi,qL,q⟩:=h;refine⟨_,(ak (aG (qY vM (aQ aK rfl) (je (bD mZ aR (aQ aK rfl))) (je (bD mZ (bD jD aR au) (aQ aK rfl)))))),?_⟩;simp_arith! [cU G hG,mz G hG];have c1:zj (i:Int) (c:Int):=.inl ⟨by lia,by lia⟩;have c2:zj ((i:Int)+1) (c:Int):=.inl ⟨by lia,by lia⟩;refine⟨c1,c2,e,xs,rfl,aF.of he,λp np=>?_⟩;have hle:(i+1)*c<=xs.length:=by rw[hx];exact mul_le_mul_right _ hi
 rw[rA xs (i:=i*c) (n:=c) (by simp) (by rw[<-succ_mul];simp) (by rw[<-succ_mul];exact hle)];exact q p _ (aA.laid np) np ao
inductive QV (a:Ad)(L:Nat->Nat->List V->Nat->List V)(num:Nat->Nat->Nat)(vs:List V)(H:Hp)(Q:VK)(E:XK):Prop where
 |mk (g e:Addr) (h c:Nat) (xs:List V) (cI:vs=[.ref g]) (cJ:qD a H g h c e) (cQ:H e=some (.aB xs)) (dH:xs.length=h*c) (fC:1<=h) (gF:1<=c) (iQ:h<=16) (kE:c<=16) (ud:∀D Z (as:List Addr),H D=none->aA H Z->Z D=some (.aB (as.map V.ref))->as.length=num h c->(∀i p,as[i]? =some p->H p=none/\Z p=some (.aB (L h c xs i)))->Q (.ref D) Z)
theorem jt (G:aU K mg a):bI P w K mg aq "rows_of" a.R0 2 ["grid"] (QV a (λz c xs i=>QT xs c i) λh z=>h):=G.fn_rows_of.bx λfd F=>by
 refine F.ok CG (λvs H Q E h=>?_) (λz A z s H vs Q E hr h=>?_)
 ·obtain⟨g,e,h,c,xs,rfl,_⟩:=h;rfl
 obtain⟨g,e,h,c,xs,rfl,hG,he,hx,h1,c1,qL,c16,q⟩:=h;refine⟨_,(ak (aG (lW (own:=[("row",1)]) rfl CG.nd (lE rfl G.kW (bG (aQ aK rfl))) (eG (N:=["grid","row"]) (sc:=bV (aM 57)) (by decide+kernel)) (λz z z z z=>(bM (i:=1) CG.nd rfl (Or.inl rfl))) (λz z z z z=>gj) (λz z z z z=>(aD (d_row_of G) (bB aK aR)))))),?_⟩;simp_arith! [oO G hG];refine⟨by lia,by lia,?_⟩;rw[toNat_natCast];refine lcRows (λi=>QT xs c i) (cD (by lia)) (λv=>rfl) ?_ ?_
 ·intro i Z N hi s1 hN;ac_rfl;have e0:(0:Int)+(i:Int)=(i:Int):=by lia
  rw[e0];exact⟨g,e,h,c,i,xs,rfl,hG.same s1,s1 _ _ he,hx,hi,qL,λp H2 s2 np hp=>hN p H2 s2 np hp⟩
 ·intro D Z as nD s1 hD ha hp;exact q D Z as nD s1 hD ha hp
def Ik (h c:Nat)(xs:List V)(j:Nat):List V:=(range h).filterMap λi=>xs[i*c+j]?
theorem each_col {h c j:Nat}{xs:List V}(hx:xs.length=h*c)(hj:j<c):yp xs j c=Ik h c xs j:=by
 unfold yp Ik;have e:(xs.length-j+c-1)/c=h:=by
  rw[hx];exact Nat.div_eq_of_lt_le (by lia) (by rw[succ_mul];lia)
 rw[e,List.filterMap_map]
 congr 1
 funext i;show xs[j+c*i]? =xs[i*c+j]?;rw[mul_comm,Nat.add_comm]
theorem Il (G:aU K mg a):bI P w K mg aq "columns_of" a.G6 2 ["grid"] (QV a Ik λz c=>c):=G.Ua.bx λfd F=>by
 refine F.ok uD (λvs H Q E h=>?_) (λz A z s H vs Q E hr h=>?_)
 ·obtain⟨g,e,h,c,xs,rfl,_⟩:=h;rfl
 obtain⟨g,e,h,c,xs,rfl,hG,he,hx,h1,c1,qL,c16,q⟩:=h;refine⟨_,(ak (aG (lW (own:=[("column",1)]) rfl uD.nd (lE rfl G.kW (bG (aQ aK rfl))) (eG (N:=["grid","column"]) (sc:=bV (aM 58)) (by decide+kernel)) (λz z z z z=>(bM (i:=1) uD.nd rfl (Or.inl rfl))) (λz z z z z=>gj) (λz z z z z=>(pe_slice3K (K:=K) rfl (z7 (K:=K) rfl aK rfl) (je aR) (z7 (K:=K) rfl aK rfl)))))),?_⟩;simp_arith! [mz G hG];refine⟨by lia,by lia,?_⟩;rw[toNat_natCast];refine lcRows (λj=>Ik h c xs j) (cD (by lia)) (λv=>rfl) ?_ ?_
 ·intro j Z N hj s1 hN;simp_arith! [mz G (hG.same s1),cU G (hG.same s1)];have e0:(0:Int)+(j:Int)=(j:Int):=by lia
  rw[e0];have hle:c<=h*c:=Nat.le_mul_of_pos_left c (by lia);refine⟨e,xs,j,c,rfl,aF.of (s1 _ _ he),.inr rfl,by lia,rfl,c1,λp np=>?_⟩;rw[each_col hx hj];exact hN p _ (aA.laid np) np ao
 ·intro D Z as nD s1 hD ha hp;exact q D Z as nD s1 hD ha hp
theorem ju {A:Arith}{M:Mat}(h:Vl.WF A M):ms A M=tab M.rows M.cols (M.mean A):=Zz (gC h) λi j hi hj=>O1 h hi hj
theorem Bo (r c:Nat)(g:Nat->Nat->Int):vI (tab r c g)=tab r c λi j=>V.int (g i j):=rE r c g V.int
theorem each_diag {α:Type}(n:Nat)(g:Nat->Nat->V):yp (tab n n g) 0 (n+1)=(range n).map λi=>g i i:=by
 unfold yp;have e:((tab n n g).length-0+(n+1)-1)/(n+1)=n:=by
  rw[iR];have:n*n-0+(n+1)-1=(n+1)*n:=by rw[succ_mul];lia
  rw[this,Nat.mul_div_cancel_left _ (by lia)]
 rw[e,List.filterMap_map];have:∀l:List Nat,(∀i∈l,i<n)->l.filterMap ((λj=>(tab n n g)[j]?)∘λj=>0+(n+1)*j)=l.map λi=>g i i:=by
  intro l
  induction l with
  |nil=>intro _;rfl
  |cons i l ih=>
   intro h;have hi:=h i mem_cons_self;have q:=N7 (g:=g) hi hi;have e1:0+(n+1)*i=i*n+i:=by rw[succ_mul,mul_comm];lia
   have e2:((λj=>(tab n n g)[j]?)∘λj=>0+(n+1)*j) i=some (g i i):=by show(tab n n g)[0+(n+1)*i]? =_;rw[e1,q]
   rw[filterMap_cons,e2,map_cons];exact congrArg (List.cons _) (ih λk O=>h k (mem_cons_of_mem _ O))
 exact this _ λi hi=>List.mem_range.mp hi
inductive spDiag (a:Ad)(vs:List V)(H:Hp)(Q:VK)(E:XK):Prop where
 |mk (g e:Addr) (n:Nat) (f:Nat->Nat->V) (cI:vs=[.ref g]) (cJ:qD a H g n n e) (cQ:H e=some (.aB (tab n n f))) (dH:n<=16) (fC:∀p Z,aA H Z->H p=none->Z p=some (.aB ((range n).map λi=>f i i))->Q (.ref p) Z)
theorem Uq (G:aU K mg a):bI P w K mg aq "diagonal_of" a.Ej 1 ["grid"] (spDiag a):=G.QF.bx λfd F=>by
 refine F.ok Qn (λvs H Q E h=>?_) (λz A z s H vs Q E hr h=>?_)
 ·obtain⟨g,e,n,f,rfl,_⟩:=h;rfl
 obtain⟨g,e,n,f,rfl,hG,he,qL,q⟩:=h;refine⟨_,(ak (aG (Ry (aQ aK rfl) Y8 (bD jD (aQ aK rfl) au)))),?_⟩;simp_arith! [cU G hG,mz G hG];refine⟨e,_,0,n+1,rfl,aF.of he,.inl ⟨rfl,rfl⟩,zero_le _,by lia,by lia,λp np=>?_⟩;rw[each_diag (α:=V)];exact q p _ (aA.laid np) np ao
inductive spZip (K:Frag)(a:Ad)(g:Arith->Int->Int->Int)(C:Nat->Arith->Int->Int->Prop)(vs:List V)(H:Hp)(Q:VK)(E:XK):Prop where
 |mk (p l1 l2:Addr) (k m:Nat) (A:Arith) (xs ys:List Int) (cI:vs=[.ref p,.ref l1,.ref l2]) (cJ:dO a H p k m) (cQ:arith k m=some A) (dH:m<18446744073709551616) (fC:aF K H l1 (vI xs)) (gF:aF K H l2 (vI ys)) (iQ:xs.length=ys.length) (kE:xs.length<=100000) (ud:(∀x∈xs,Ar.Dom k x)) (Bm:(∀y∈ys,Ar.Dom k y)) (zP:(∀x∈xs,∀y∈ys,C k A x y)) (Ii:∀D Z,H D=none->aA H Z->Z D=some (.aB (vI (zipWith (g A) xs ys)))->Q (.ref D) Z)
theorem d_sums (G:aU K mg a):bI P w K mg aq "sums" a.f_sums 3 ["arithmetic","xs","ys"] (spZip K a (λA=>A.plus) TrueC):=G.fn_sums.bx λfd F=>by
 refine F.ok JC (λvs H Q E h=>?_) (λz A z s H vs Q E hr h=>?_)
 ·obtain⟨p,l1,l2,k,m,A,xs,ys,rfl,_⟩:=h;rfl
 obtain⟨p,l1,l2,k,m,A,xs,ys,rfl,hA,O,hm,h1,h2,hxy,hn,dx,dy,hc,q⟩:=h;have hz:xs.length=(zipWith A.plus xs ys).length:=by rw[List.length_zipWith];lia
 refine⟨_,(ak (aG (lW (own:=[("x",3),("y",4)]) rfl JC.nd (sU rfl G.yJ (bB aR bf)) (eG (N:=["arithmetic","xs","ys","x","y"]) (sc:=bV (aM 60)) (by decide+kernel)) (λz z z z z=>(z8 (K:=K) (n:=2) rfl rfl (dZ (bM (i:=3) JC.nd rfl (Or.inl rfl)) (dZ (bM (i:=4) JC.nd rfl (Or.inl rfl)) lV)))) (λz z z z z=>gj) (λz z z z z=>(aD (W7 G) (bC aK (bB bF cM))))))),?_⟩;ac_rfl;refine⟨l1,l2,_,_,rfl,h1,h2,lcZ (λi=>V.int ((zipWith A.plus xs ys).getD i 0)) h1 h2 (by rw[length_map,length_map];exact hxy) (by rw[length_map];exact lt_of_le_of_lt hn (by decide)) (λv u=>rfl) ?_ ?_⟩
 ·intro i x y Z N hx hy s1 hN;obtain⟨x,rfl,hx1⟩:=jq hx;obtain⟨y,rfl,hy1⟩:=jq hy;have q:=hN Z (aA.refl _);rw[xJ hx1 hy1] at q;ac_rfl;exact⟨p,k,m,A,x,y,rfl,hA.same s1,O,hm,dx x (mem_of_getElem? hx1),dy y (mem_of_getElem? hy1),trivial,q⟩
 ·intro D Z nD s1 hD;rw[length_map,xH _ hz.symm] at hD;exact q D Z nD s1 hD
inductive spMults (K:Frag)(a:Ad)(vs:List V)(H:Hp)(Q:VK)(E:XK):Prop where
 |mk (p l:Addr) (k m:Nat) (A:Arith) (x:Int) (ys:List Int) (cI:vs=[.ref p,.int x,.ref l]) (cJ:dO a H p k m) (cQ:arith k m=some A) (dH:m<18446744073709551616) (fC:aF K H l (vI ys)) (gF:ys.length<=100000) (iQ:Ar.Dom k x) (kE:(∀y∈ys,Ar.Dom k y)) (ud:(k<=2-> -(2^64)<x/\x<2^64)) (Bm:∀D Z,H D=none->aA H Z->Z D=some (.aB (vI (ys.map (A.times x))))->Q (.ref D) Z)
theorem KY (G:aU K mg a):bI P w K mg aq "multiples" a.KJ 3 ["arithmetic","factor","meanings"] (spMults K a):=G.W0.bx λfd F=>by
 refine F.ok wH (λvs H Q E h=>?_) (λz A z s H vs Q E hr h=>?_)
 ·obtain⟨p,l,k,m,A,x,ys,rfl,_⟩:=h;rfl
 obtain⟨p,l,k,m,A,x,ys,rfl,hA,O,hm,hl,hn,dx,dy,hc,q⟩:=h;refine⟨_,(ak (aG (lW (own:=[("meaning",3)]) rfl wH.nd (fj bf) (eG (N:=["arithmetic","factor","meanings","meaning"]) (sc:=bV (aM 61)) (by decide+kernel)) (λz z z z z=>(bM (i:=3) wH.nd rfl (Or.inl rfl))) (λz z z z z=>gj) (λz z z z z=>(aD (vU G) (bC aK (bB aR bF))))))),?_⟩;ac_rfl;refine⟨l,rfl,⟨_,hl⟩,RB (λi=>(ys[i]?.map λy=>.int (A.times x y)).getD .non) hl (by rw[length_map];exact lt_of_le_of_lt hn (by decide)) (λv=>rfl) ?_ ?_⟩
 ·intro i y Z N hy s1 hN;obtain⟨y,rfl,hy1⟩:=jq hy;ac_rfl;have q:=hN Z (aA.refl _);rw[hy1] at q;exact⟨p,k,m,A,x,y,rfl,hA.same s1,O,hm,dx,dy y (mem_of_getElem? hy1),λh2=>.inl (hc h2),q⟩
 ·intro D Z nD s1 hD;rw[length_map,tZ] at hD;refine q D Z nD s1 ?_;rw[hD];show _=some (HO.aB ((ys.map (A.times x)).map V.int));rw[map_map];rfl
inductive Xe (a:Ad)(vs:List V)(H:Hp)(Q:VK)(E:XK):Prop where
 |mk (p dx:Addr) (k m:Nat) (cI:vs=[.ref p,.int k,.int m]) (cJ:H p=some (.ins a.fJ dx [])) (cQ:∀Z:Hp,Z p=some (.ins a.fJ dx (KR k m))->But [p] H Z->Q .non Z)
theorem Im (G:aU K mg a):Nm P w K mg aq "Arithmetic" a.fJ 1 ["self","kind","modulus"] (Xe a):=G.Hx.bx λfd F=>by
 refine F.ok Gz (λvs H Q E h=>?_) (λz A z s H vs Q E hr h=>?_)
 ·obtain⟨p,dx,k,m,rfl,_⟩:=h;rfl
 obtain⟨p,dx,k,m,rfl,hp,q⟩:=h;refine⟨_,(aC (fH aK aR rfl) (ak (fH aK bf rfl))),?_⟩;ac_rfl;rw[cY hp G.nZ G.u6 (by decide)];ac_rfl;rw[cY ao G.nZ G.qt (oX _ _)];rw[oW];exact q _ ao But.wrote
theorem ZQ {k m:Nat}{ki mi:Int}{H:Hp}{Q:Addr->Hp->Prop}(ek:ki=k)(em:mi=m)(h:∀(p:Addr) (Z:Hp),H p=none->aA H Z->dO a Z p k m->Q p Z):
  ∀x dx,H x=none->H dx=none->dx≠x->Xe a (.ref x::[.int ki,.int mi]) (aN (aN H dx (.own x)) x (.ins a.fJ dx [])) (λv H2=>v=.non/\Q x H2) E0:=by
 intro x dx nx nd ne;subst ek em;refine⟨x,dx,k,m,rfl,ao,λZ h' b=>⟨rfl,h x Z nx (λc o e=>?_) ⟨dx,h'⟩⟩⟩;have n1:c≠x:=aW e nx;have n2:c≠dx:=aW e nd;exact b c o (by rw[aO n1,aO n2];exact e) (by simp[n1])
def lO (c:Addr)(n:Nat):List (Str×V):=bA "place" (.int n) (bA "calls" (.ref c) [])
def iI (a:Ad)(H:Hp)(r c:Addr)(n:Nat):Prop:=∃dx,H r=some (.ins a.cG dx (lO c n))
theorem yN (c:Addr)(n:Nat):(lO c n).lookup ("calls":Str)=some (.ref c):=by
 unfold lO;rw[aP,if_neg (by decide+kernel),aP,if_pos rfl]
theorem uf (c:Addr)(n:Nat):(lO c n).lookup ("place":Str)=some (.int n):=by
 unfold lO;rw[aP,if_pos rfl]
theorem rdF_no (c:Addr)(n:Nat){m:Str}(h1:m≠"calls")(h2:m≠"place"):(lO c n).lookup m=none:=by
 unfold lO;rw[aP,if_neg h2,aP,if_neg h1];rfl
theorem ZR (c:Addr)(n n':Nat):bA "place" (.int n') (lO c n)=lO c n':=Gk _ _ _ _
theorem ZS (c:Addr)(n:Nat):(lO c n).length<1000:=sW _ _ _ _
theorem QW (G:aU K mg a){H:Hp}{r c:Addr}{n:Nat}(h:iI a H r c n){Q:VK}:gn K "calls" (.ref r) H Q↔Q (.ref c) H:=by
 obtain⟨dx,e⟩:=h;exact dJ e G.iM G.Az (yN c n)
theorem QX (G:aU K mg a){H:Hp}{r c:Addr}{n:Nat}(h:iI a H r c n){Q:VK}:gn K "place" (.ref r) H Q↔Q (.int n) H:=by
 obtain⟨dx,e⟩:=h;exact dJ e G.iM G.mq (uf c n)
theorem ZV {m:Str}{H:Hp}{r c:Addr}{n:Nat}(h:iI a H r c n)(h1:m≠"calls")(h2:m≠"place"){k:Prop}:rM a.cG m (.ref r) H k↔k:=by
 obtain⟨dx,e⟩:=h;exact rM_at e (rdF_no c n h1 h2)
inductive Xf (a:Ad)(vs:List V)(H:Hp)(Q:VK)(E:XK):Prop where
 |mk (r dx c:Addr) (cI:vs=[.ref r,.ref c]) (cJ:H r=some (.ins a.cG dx [])) (cQ:∀Z:Hp,iI a Z r c 0->But [r] H Z->Q .non Z)
theorem d_Reader (G:aU K mg a):Nm P w K mg aq "Reader" a.cG 1 ["self","calls"] (Xf a):=G.QK.bx λfd F=>by
 refine F.ok Qo (λvs H Q E h=>?_) (λz A z s H vs Q E hr h=>?_)
 ·obtain⟨p,dx,c,rfl,_⟩:=h;rfl
 obtain⟨p,dx,c,rfl,hp,q⟩:=h;refine⟨_,(aC (fH aK aR rfl) (ak (fH aK au rfl))),?_⟩;ac_rfl;rw[cY hp G.iM G.Az (by decide)];ac_rfl;rw[cY ao G.iM G.mq (oX _ _)];rw[oW];refine q _ ⟨dx,?_⟩ But.wrote;rw[ao];rfl
theorem make_rd {c:Addr}{H:Hp}{Q:Addr->Hp->Prop}(h:∀(r:Addr) (Z:Hp),H r=none->aA H Z->iI a Z r c 0->Q r Z):
  ∀x dx,H x=none->H dx=none->dx≠x->Xf a (.ref x::[.ref c]) (aN (aN H dx (.own x)) x (.ins a.cG dx [])) (λv H2=>v=.non/\Q x H2) E0:=by
 intro x dx nx nd ne;refine⟨x,dx,c,rfl,ao,λZ h' b=>⟨rfl,h x Z nx (λc o e=>?_) h'⟩⟩;have n1:c≠x:=aW e nx;have n2:c≠dx:=aW e nd;exact b c o (by rw[aO n1,aO n2];exact e) (by simp[n1])
inductive spThrough (K:Frag)(a:Ad)(vs:List V)(H:Hp)(Q:VK)(E:XK):Prop where
 |mk (r c:Addr) (n:Nat) (xs:List V) (cI:vs=[.ref r]) (cJ:iI a H r c n) (cQ:aF K H c xs) (dH:Q (.bl (decide (xs.length<=n))) H)
theorem Xg (G:aU K mg a):v9 P w K mg aq a.cG "is_through" 1 ["self"] (spThrough K a):=G.Dz.bx G.iM λfd F=>by
 refine F.ok CN (λvs H Q E h=>?_) (λz A z s H vs Q E hr h=>?_)
 ·obtain⟨r,c,n,xs,rfl,_⟩:=h;rfl
 obtain⟨r,c,n,xs,rfl,hR,hS,q⟩:=h;refine⟨_,(ak (aG (fU (Uw (aQ aK rfl) (cF bU (by rfl) G.fX PySem.boot_len (bG (aQ aK rfl))))))),?_⟩;ac_rfl;simp only[QX G hR,QW G hR];refine⟨c,xs,rfl,.inl hS,_,_,rfl,rfl,?_⟩;have e:decide (((xs.length:Nat):Int)<=(n:Int))=decide (xs.length<=n):=decide_eq_decide.mpr (by lia);rw[e];exact q
inductive spTakeN (K:Frag)(a:Ad)(vs:List V)(H:Hp)(Q:VK)(E:XK):Prop where
 |mk (r c:Addr) (n:Nat) (xs:List V) (v:V) (cI:vs=[.ref r]) (cJ:iI a H r c n) (cQ:uT K H c xs) (dH:xs[n]? =some v) (fC:∀Z:Hp,iI a Z r c (n+1)->But [r] H Z->Q v Z)
theorem Eo (G:aU K mg a):v9 P w K mg aq a.cG "take_number" 1 ["self"] (spTakeN K a):=G.Bj.bx G.iM λfd F=>by
 refine F.ok Am (λvs H Q E h=>?_) (λx A x s H vs Q E hr h=>?_)
 ·obtain⟨r,c,n,xs,v,rfl,_⟩:=h;rfl
 obtain⟨r,c,n,xs,v,rfl,⟨dx,hR⟩,hS,hv,q⟩:=h;refine⟨_,(aC (Rh aK au in_add) (ak (aG (aJ aH (aQ aK rfl) (bD lF (aQ aK rfl) au) (λx x=>rfl))))),?_⟩;have hlt:n<xs.length:=(List.getElem?_eq_some_iff.mp hv).1;refine Rw (K:=K) (a:=r) (y:=.int 1) (v:=.int n) (λQ=>x_ss) (λQ=>Iff.rfl) hR G.iM G.mq (uf c n) (ZS c n) ⟨_,_,rfl,rfl,rfl,?_⟩ (λQ Q' m ⟨i,j,e,e',q⟩=>⟨i,j,e,e',m _ _ q⟩);have e1:((n:Int)+1)=((n+1:Nat):Int):=by lia
 rw[e1,ZR];have hR':iI a (aN H r (.ins a.cG dx (lO c (n+1)))) r c (n+1):=⟨dx,ao⟩;have hb:But [r] H (aN H r (.ins a.cG dx (lO c (n+1)))):=But.wrote;have hnf:∀z∈[r],∀o u,H z≠some (.j4 o u):=λz hz o u e=>by simp at hz;subst hz;rw[hR] at e;cases e
 generalize aN H r (.ins a.cG dx (lO c (n+1)))=Z at*;simp_arith! [QW G hR',QX G hR'];exact aL (hS.but hb hnf).sql (at_of (j:=n) (by lia) hv) (q Z hR' hb)
inductive spTakeR (K:Frag)(a:Ad)(vs:List V)(H:Hp)(Q:VK)(E:XK):Prop where
 |mk (r c:Addr) (n k:Nat) (xs:List V) (cI:vs=[.ref r,.int k]) (cJ:iI a H r c n) (cQ:uT K H c xs) (dH:n+k<=xs.length) (fC:∀(Z:Hp) (p:Addr),iI a Z r c (n+k)->But [r] H Z->H p=none->Z p=some (.aB ((xs.drop n).take k))->Q (.ref p) Z)
theorem O2 (G:aU K mg a):v9 P w K mg aq a.cG "take_row" 1 ["self","length"] (spTakeR K a):=G.HX.bx G.iM λfd F=>by
 refine F.ok GR (λvs H Q E h=>?_) (λx A x s H vs Q E hr h=>?_)
 ·obtain⟨r,c,n,k,xs,rfl,_⟩:=h;rfl
 obtain⟨r,c,n,k,xs,rfl,⟨dx,hR⟩,hS,O,q⟩:=h;refine⟨_,(aC (Rh aK aR in_add) (ak (aG (qY vM (aQ aK rfl) (je (bD lF (aQ aK rfl) aR)) (je (aQ aK rfl)))))),?_⟩;refine Rw (K:=K) (a:=r) (y:=.int k) (v:=.int n) (λQ=>x_ss) (λQ=>x_ss) hR G.iM G.mq (uf c n) (ZS c n) ⟨_,_,rfl,rfl,rfl,?_⟩ (λQ Q' m ⟨i,j,e,e',q⟩=>⟨i,j,e,e',m _ _ q⟩);have e1:((n:Int)+(k:Int))=((n+k:Nat):Int):=by lia
 rw[e1,ZR];have hR':iI a (aN H r (.ins a.cG dx (lO c (n+k)))) r c (n+k):=⟨dx,ao⟩;have hb:But [r] H (aN H r (.ins a.cG dx (lO c (n+k)))):=But.wrote;have hnf:∀z∈[r],∀o u,H z≠some (.j4 o u):=λz hz o u e=>by simp at hz;subst hz;rw[hR] at e;cases e
 have hf:∀p,aN H r (.ins a.cG dx (lO c (n+k))) p=none->H p=none/\p≠r:=λp e=>by
  have np:p≠r:=λz=>by rw[z,ao] at e;cases e
  exact⟨by rw[aO np] at e;exact e,np⟩
 generalize aN H r (.ins a.cG dx (lO c (n+k)))=H1 at*;simp_arith! [QW G hR',QX G hR'];refine⟨c,xs,rfl,(hS.but hb hnf).sql,λp np=>?_⟩;rw[rA xs (i:=n) (n:=k) (by lia) rfl O];have s1:aA H1 (aN H1 p (.aB ((xs.drop n).take k))):=aA.laid np;obtain⟨m6,hR''⟩:=hR';exact q _ p ⟨m6,s1 _ _ hR''⟩ (hb.trans s1.but) (hf p np).1 ao
inductive spTakeC (K:Frag)(a:Ad)(vs:List V)(H:Hp)(Q:VK)(E:XK):Prop where
 |mk (r c:Addr) (n k:Nat) (xs:List V) (cI:vs=[.ref r]) (cJ:iI a H r c n) (cQ:uT K H c xs) (dH:xs[n]? =some (.int k)) (fC:n+1+k<=xs.length) (gF:∀(Z:Hp) (p:Addr),iI a Z r c (n+1+k)->But [r] H Z->H p=none->Z p=some (.aB ((xs.drop (n+1)).take k))->Q (.ref p) Z)
theorem Io (G:aU K mg a):v9 P w K mg aq a.cG "take_counted_row" 2 ["self"] (spTakeC K a):=G.uP.bx G.iM λfd F=>by
 refine F.ok uE (λvs H Q E h=>?_) (λy A y s H vs Q E hr h=>?_)
 ·obtain⟨r,c,n,k,xs,rfl,_⟩:=h;rfl
 obtain⟨r,c,n,k,xs,rfl,hR,hS,O,hl,q⟩:=h;refine⟨_,(ak (aG (wg (O2 G) aK (bG (cA (Eo G) aK))))),?_⟩;ac_rfl;rw[ZV hR (by decide+kernel) (by decide+kernel),ZV hR (by decide+kernel) (by decide+kernel)];have hnf:∀z∈[r],∀o u,H z≠some (.j4 o u):=λz hz o u e=>by simp at hz;subst hz;obtain⟨dx,hR⟩:=hR;rw[hR] at e;cases e
 refine⟨r,c,n,xs,.int k,rfl,hR,hS,O,λH1 Xh b1=>?_⟩;refine⟨r,c,n+1,k,xs,rfl,Xh,hS.but b1 hnf,hl,λH2 p SN b2 hp hq=>?_⟩;refine q H2 p SN (b1.trans b2) ?_ hq;have np:p≠r:=λz=>by obtain⟨dx2,e⟩:=Xh;rw[z,e] at hp;cases hp
 cases e:H p with
 |none=>rfl
 |some o=>rw[b1 p o e (by simp[np])] at hp;cases hp
def ug (p t:Addr):List (Str×V):=bA "table" (.ref t) (bA "arithmetic" (.ref p) [])
theorem Xi (p t:Addr):(ug p t).lookup ("arithmetic":Str)=some (.ref p):=by
 unfold ug;rw[aP,if_neg (by decide+kernel),aP,if_pos rfl]
theorem JK (p t:Addr):(ug p t).lookup ("table":Str)=some (.ref t):=by
 unfold ug;rw[aP,if_pos rfl]
theorem ZW (p t:Addr):(ug p t).length<1000:=sW _ _ _ _
theorem bdF_putT (p t t':Addr):bA "table" (.ref t') (ug p t)=ug p t':=Gk _ _ _ _
theorem bdF_putA (p t p':Addr):bA "arithmetic" (.ref p') (ug p t)=ug p' t:=by
 unfold ug;have e1:bA ("arithmetic":Str) (V.ref p) []=[(("arithmetic":Str),V.ref p)]:=rfl;have e2:∀q,bA ("table":Str) (V.ref t) [(("arithmetic":Str),V.ref q)]=[(("arithmetic":Str),V.ref q),(("table":Str),V.ref t)]:=λq=>by
  show(if ("arithmetic":Str)="table" then _ else _)=_;rw[if_neg (by decide+kernel)];rfl
 have e3:bA ("arithmetic":Str) (V.ref p') []=[(("arithmetic":Str),V.ref p')]:=rfl;rw[e1,e2,e3,e2];show(if ("arithmetic":Str)="arithmetic" then _ else _)=_;rw[if_pos rfl]
structure yO (a:Ad)(H:Hp)(av:List Addr)(q:Addr)(M:Mat):Prop where
 ex:∃(e:Addr) (l:List Nat),qD a H q M.rows M.cols e/\H e=some (.aB (l.map λn:Nat=>V.int n))/\e∉av/\l.length=M.rows*M.cols/\M.words=rowsOf M.cols M.rows l/\∀x∈l,x<18446744073709551616
 r1:1<=M.rows
 r2:M.rows<=16
 c1:1<=M.cols
 c2:M.cols<=16
theorem yO.tf {H:Hp}{av:List Addr}{q:Addr}{M:Mat}(h:yO a H av q M):Vl.TF M:=by
 obtain⟨e,l,_,_,_,h1,h2,h3⟩:=h.ex;exact⟨h.r1,h.r2,h.c1,h.c2,l,h1,h2,h3⟩
structure cP (a:Ad)(H:Hp)(av:List Addr)(b t:Addr)(S:State):Prop where
 ex:∃(dx p:Addr) (ts:List Addr),H b=some (.ins a.jg dx (ug p t))/\dO a H p S.a S.m/\H t=some (.aB (ts.map V.ref))/\Paired (yO a H (t::av)) ts S.table
 ar:(arith S.a S.m).isSome=true
 m:S.m<18446744073709551616
 len:S.table.length<=16
 nav:t∉av
theorem bd_ne_ar {p t:Addr}{k m:Nat}:ug p t≠KR k m:=λe=>by
 have:=congrArg (List.lookup ("table":Str)) e;rw[JK] at this;unfold KR at this;rw[aP,if_neg (by decide+kernel),aP,if_neg (by decide+kernel)] at this;cases this
theorem rd_ne_ar {c:Addr}{n k m:Nat}:lO c n≠KR k m:=λe=>by
 have:=congrArg (List.lookup ("calls":Str)) e;rw[yN] at this;unfold KR at this;rw[aP,if_neg (by decide+kernel),aP,if_neg (by decide+kernel)] at this;cases this
theorem rd_ne_bd {c:Addr}{n:Nat}{p t:Addr}:lO c n≠ug p t:=λe=>by
 have:=congrArg (List.lookup ("calls":Str)) e;rw[yN] at this;unfold ug at this;rw[aP,if_neg (by decide+kernel),aP,if_neg (by decide+kernel)] at this;cases this
theorem rd_ne_gr {c:Addr}{n h k:Nat}{e:Addr}:lO c n≠En h k e:=λz=>by
 have:=congrArg (List.lookup ("calls":Str)) z;rw[yN] at this;unfold En at this;rw[aP,if_neg (by decide+kernel),aP,if_neg (by decide+kernel),aP,if_neg (by decide+kernel)] at this;cases this
theorem bd_ne_gr {p t:Addr}{h k:Nat}{e:Addr}:ug p t≠En h k e:=λz=>by
 have:=congrArg (List.lookup ("table":Str)) z;rw[JK] at this;unfold En at this;rw[aP,if_neg (by decide+kernel),aP,if_neg (by decide+kernel),aP,if_neg (by decide+kernel)] at this;cases this
structure Apart (a:Ad)(H:Hp)(av:List Addr)(b t z:Addr):Prop where
 nb:z≠b
 nt:z≠t
 nl:z∈av\/∀xs,H z≠some (.aB xs)
 np:∀h c e,¬qD a H z h c e
 na:∀k m,¬dO a H z k m
theorem d8 {α β:Type}{R S:α->β->Prop}(h:∀x y,R x y->S x y):∀{xs:List α}{ys:List β},Paired R xs ys->Paired S xs ys
 |_,_,.nil=>.nil
 |_,_,.cons r t=>.cons (h _ _ r) (d8 h t)
theorem cP.but {H Z:Hp}{av Z9q:List Addr}{b t:Addr}{S:State}(h:cP a H av b t S)(B:But Z9q H Z)(hz:∀z∈Z9q,Apart a H av b t z):cP a Z av b t S:=by
 obtain⟨dx,p,ts,h1,⟨dx2,h2⟩,h3,h4⟩:=h.ex;refine⟨⟨dx,p,ts,B _ _ h1 λz=>(hz _ z).nb rfl,⟨dx2,B _ _ h2 λz=>(hz _ z).na _ _ ⟨dx2,h2⟩⟩,B _ _ h3 λz=>(hz _ z).nt rfl,d8 (λq M m=>?_) h4⟩,h.ar,h.m,h.len,h.nav⟩;obtain⟨e,l,m1,m2,m3,m4⟩:=m.ex;have m1':=m1;obtain⟨dg,m1⟩:=m1;refine⟨⟨e,l,⟨dg,B _ _ m1 λz=>(hz _ z).np _ _ _ m1'⟩,B _ _ m2 λz=>?_,m3,m4⟩,m.r1,m.r2,m.c1,m.c2⟩;rcases(hz _ z).nl with q|q
 ·exact m3 (mem_cons_of_mem _ q)
 ·exact q _ m2
theorem cP.same {H Z:Hp}{av:List Addr}{b t:Addr}{S:State}(h:cP a H av b t S)(s:aA H Z):cP a Z av b t S:=h.but (Z9q:=[]) s.but λz hz=>absurd hz (by simp)
theorem JL (G:aU K mg a){H:Hp}{av:List Addr}{b t:Addr}{S:State}(h:cP a H av b t S){Q:VK}:gn K "table" (.ref b) H Q↔Q (.ref t) H:=by
 obtain⟨dx,p,ts,h1,_⟩:=h.ex;exact dJ h1 G.jY G.oh (JK p t)
inductive Xj (a:Ad)(vs:List V)(H:Hp)(Q:VK)(E:XK):Prop where
 |mk (b dx:Addr) (cI:vs=[.ref b]) (cJ:H b=some (.ins a.jg dx [])) (cQ:∀(Z:Hp) (t:Addr) (av:List Addr),H t=none->t∉av->cP a Z av b t GridTalk.start->But [b] H Z->Q .non Z)
theorem d_Board (G:aU K mg a):Nm P w K mg aq "Board" a.jg 3 ["self"] (Xj a):=G.Ud.bx λfd F=>by
 have xO:=@Im P w K mg aq a G;refine F.ok Tw (λvs H Q E h=>?_) (λy A y s H vs Q E hr h=>?_)
 ·obtain⟨b,dx,rfl,_⟩:=h;rfl
 obtain⟨b,dx,rfl,hb,q⟩:=h;refine⟨_,(aC (fH aK (iC xO (bB au au)) rfl) (ak (fH aK (bK dM) rfl))),?_⟩;ac_rfl;refine ZQ (k:=0) (m:=0) (ki:=0) (mi:=0) rfl rfl λp H1 np s1 hA=>?_;rw[cY (s1 _ _ hb) G.jY G.gQ (by decide)];have Xk:p≠b:=λz=>by rw[z,hb] at np;cases np
 obtain⟨dp,hA⟩:=hA;refine⟨zero_le _,λt nt=>?_⟩;have Ip:t≠b:=λz=>by rw[z,ao] at nt;cases nt
 have nt1:H1 t=none:=by rw[aO Ip] at nt;exact nt
 have ntp:t≠p:=λz=>by rw[z,hA] at nt1;cases nt1
 rw[cY (a:=b) (dx:=dx) (C:=a.jg) (fs:=bA "arithmetic" (.ref p) []) (by rw[aO (Ne.symm Ip),ao]) G.jY G.oh (oX _ _)];refine q _ t [] (s1.free nt1) (by simp) ⟨⟨dx,p,[],ao,⟨dp,?_⟩,?_,.nil⟩,rfl,by decide,by decide,by simp⟩ ?_
 ·rw[aO Xk,aO (Ne.symm ntp),aO Xk];exact hA
 ·rw[aO Ip,ao];rfl
 ·intro c o e n;have n1:c≠b:=λz=>n (by simp[z]);have e1:=s1 c o e;rw[aO n1,aO (aW e1 nt1),aO n1];exact e1
theorem make_bd {H:Hp}{Q:Addr->Hp->Prop}(h:∀(b t:Addr) (Z:Hp),H b=none->H t=none->aA H Z->cP a Z [] b t GridTalk.start->Q b Z):
  ∀x dx,H x=none->H dx=none->dx≠x->Xj a [.ref x] (aN (aN H dx (.own x)) x (.ins a.jg dx [])) (λv H2=>v=.non/\Q x H2) E0:=by
 intro x dx nx nd ne;refine⟨x,dx,rfl,ao,λZ t av nt z hB b=>⟨rfl,?_⟩⟩;have n0:H t=none:=by
  by_cases e1:t=x
  ·rw[e1];exact nx
  ·by_cases e2:t=dx
   ·rw[e2];exact nd
   ·rw[aO e1,aO e2] at nt;exact nt
 have hB':cP a Z [] x t GridTalk.start:=⟨let ⟨dx,p,ts,h1,h2,h3,h4⟩:=hB.ex;⟨dx,p,[],h1,h2,by cases h4;exact h3,.nil⟩,hB.ar,hB.m,hB.len,by simp⟩;refine h x t Z nx n0 (λc o e=>?_) hB';have n1:c≠x:=aW e nx;have n2:c≠dx:=aW e nd;exact b c o (by rw[aO n1,aO n2];exact e) (by simp[n1])
theorem cP.avoid {H:Hp}{av:List Addr}{b t:Addr}{S:State}(h:cP a H av b t S)(e:S.table=[])(av':List Addr)(n:t∉av'):cP a H av' b t S:=by
 obtain⟨dx,p,ts,h1,h2,h3,h4⟩:=h.ex;rw[e] at h4;cases h4;exact⟨⟨dx,p,[],h1,h2,h3,by rw[e];exact .nil⟩,h.ar,h.m,h.len,n⟩
inductive iy (a:Ad)(c0:Int)(vs:List V)(H:Hp)(Q:VK)(E:XK):Prop where
 |mk (b t nums rws:Addr) (av:List Addr) (S:State) (ns:List Int) (rs:List (List Int)) (as:List Addr) (cI:vs=[.ref b,.ref nums,.ref rws]) (cJ:cP a H av b t S) (cQ:H nums=some (.aB (ns.map V.int))) (dH:H rws=some (.aB (as.map V.ref))) (fC:Paired (λq r=>H q=some (.aB (r.map V.int))/\q∉(t::av)) as rs) (gF:(∀z∈av,H z≠none)) (iQ:asked1 ((c0::ns)::rs)=true) (kE:∀(Z:Hp) (q t':Addr),cP a Z av b t' (GridTalkNeutral.step S ((c0::ns)::rs)).1->Z q=some (.aB ((GridTalkNeutral.step S ((c0::ns)::rs)).2.map V.int))->But [b,t] H Z->(t'=t\/H t'=none)->H q=none->Q (.ref q) Z)
theorem eX {c0:Int}:∀vs H Q E,iy a c0 vs H Q E->vs.length=3:=by
 rintro vs H Q E ⟨b,t,nums,rws,av,S,ns,rs,as,rfl,_⟩;rfl
theorem st0 (S:State)(x y:Nat):GridTalkNeutral.step S [[0,(x:Int),(y:Int)]]=if (arith x y).isSome=true then(⟨x,y,S.table⟩,[0]) else(S,[-1]):=by
 show((GridTalk.step S (.arithmetic (x:Int).toNat (y:Int).toNat)).1,GridTalkNeutral.shown (GridTalk.step S (.arithmetic (x:Int).toNat (y:Int).toNat)).2)=_;rw[toNat_natCast,toNat_natCast];unfold GridTalk.step;by_cases h:(arith x y).isSome=true
 ·simp only[h,if_true];rfl
 ·simp only[h];rfl
theorem Kd (G:aU K mg a):bI P w K mg aq "call_arithmetic" a.mU 3 ["board","numbers","rows"] (iy a 0):=G.HY.bx λfd F=>by
 have xO:=@Im P w K mg aq a G;refine F.ok GX eX (λv A v s H vs Q E hr h=>?_);obtain⟨b,t,nums,rws,av,S,ns,rs,as,rfl,hB,hn,hr1,hp,hav,f9,q⟩:=h;obtain⟨x,y,rfl,rfl,hx,hy⟩:=dj.two (.inl rfl) f9;rw[st0] at q;refine⟨_,(aC (cC (mY (iG (aD (OD G) (bB (aJ aH aR au) (aJ aH aR au))))) (ak (aG (bK (bG (bL rfl G.Ho))))) bN)
   (aC (fH aK (iC xO (bB (aJ aH aR au) (aJ aH aR au))) rfl) (ak (aG (bK (bG (bL rfl G.Qx))))))),?_⟩
 ac_rfl;refine aL (aF.of hn) (bQ rfl) (aL (aF.of hn) (cT rfl) ⟨x,y,rfl,hy,_,rfl,?_⟩);by_cases hA:(arith x y).isSome=true
 ·rw[if_pos hA] at q;rw[hA];rw[if_neg (by decide)];refine aL (aF.of hn) (bQ rfl) (aL (aF.of hn) (cT rfl) ?_);refine ZQ (k:=x) (m:=y) (ki:=x) (mi:=y) rfl rfl λp H1 np s1 hA1=>?_;obtain⟨dx,p0,ts,h1,h2,h3,h4⟩:=(hB.same s1).ex;rw[cY h1 G.jY G.gQ (ZW _ _),bdF_putA];refine⟨by decide,λl nl=>?_⟩;have Xk:p≠b:=λz=>by obtain⟨_,_,_,e,_⟩:=hB.ex;rw[z,e] at np;cases np
  have Ip:t≠b:=vg h3 h1 (by intro z;cases z);have nlb:l≠b:=λz=>by rw[z,ao] at nl;cases nl
  have nl1:H1 l=none:=by rw[aO nlb] at nl;exact nl
  have bt:But [b] H1 (aN (aN H1 b (.ins a.jg dx (ug p t))) l (.aB [.int 0])):=But.wrote.trans (aA.laid nl).but;obtain⟨dp,hA2⟩:=hA1;refine q _ l t ⟨⟨dx,p,ts,?_,⟨dp,?_⟩,?_,?_⟩,hA,hy,hB.len,hB.nav⟩ ao ((s1.but.trans bt).mono (by simp)) (.inl rfl) (s1.free nl1)
  ·rw[aO (Ne.symm nlb),ao]
  ·exact bt _ _ hA2 (by simp[Xk])
  ·exact bt _ _ h3 (by simp[Ip])
  ·refine d8 (λq M m=>?_) h4;obtain⟨e,l',⟨dg,m1⟩,m2,m3,m4⟩:=m.ex;have n1:q≠b:=vg m1 h1 (by intro z;injection z with _ _ z;exact bd_ne_gr z.symm)
   have n2:e≠b:=vg m2 h1 (by intro z;cases z);exact⟨⟨e,l',⟨dg,bt _ _ m1 (by simp[n1])⟩,bt _ _ m2 (by simp[n2]),m3,m4⟩,m.r1,m.r2,m.c1,m.c2⟩
 ·rw[if_neg hA] at q;have hA':(arith x y).isSome=false:=by simpa using hA
  rw[hA'];rw[if_pos (by decide)];refine⟨by decide,λl nl=>?_⟩;have s1:aA H (aN H l (.aB [.int (-1)])):=aA.laid nl;exact q _ l t (hB.same s1) ao s1.but (.inl rfl) nl
inductive spMatrix (K:Frag)(vs:List V)(H:Hp)(Q:VK)(E:XK):Prop where
 |mk (r c:Nat) (l:Addr) (xs:List V) (cI:vs=[.int r,.int c,.ref l]) (cJ:aF K H l xs) (cQ:Q (.bl (sized r&&(sized c&&decide (xs.length=r*c)))) H)
theorem Ke (G:aU K mg a):bI P w K mg aq "is_matrix_grids" a.u5 2 ["height","width","entries"] (spMatrix K):=G.Ia.bx λfd F=>by
 refine F.ok GZ (λvs H Q E h=>?_) (λz A z s H vs Q E hr h=>?_)
 ·obtain⟨r,c,l,xs,rfl,_⟩:=h;rfl
 obtain⟨r,c,l,xs,rfl,hl,q⟩:=h;refine⟨_,(ak (aG (jj (aD (jr G) (bG aK)) (jj (aD (jr G) (bG aR)) (eF (fU (dD (cF bU (by rfl) G.fX PySem.boot_len (bG bf)) (bD mZ aK aR)))))))),?_⟩;ac_rfl;refine⟨r,rfl,_,rfl,?_⟩;by_cases h1:sized r=true
 ·rw[h1];rw[if_pos rfl];rw[h1,Bool.true_and] at q;refine⟨c,rfl,_,rfl,?_⟩;by_cases h2:sized c=true
  ·rw[h2];rw[if_pos rfl];rw[h2,Bool.true_and] at q;refine⟨l,xs,rfl,.inl hl,?_⟩;have hr2:=(Vl.dY.mp h1).2;have cm:zj (r:Int) (c:Int):=.inl ⟨by lia,by lia⟩;refine⟨cm,?_⟩;have e:decide (((xs.length:Nat):Int)=(r:Int)*(c:Int))=decide (xs.length=r*c):=decide_eq_decide.mpr (by rw[<-natCast_mul];lia);rw[e];exact q
  ·have h2:sized c=false:=by simpa using h2
   rw[h2];rw[if_neg (by decide)];rw[h2,Bool.false_and] at q;exact q
 ·have h1:sized r=false:=by simpa using h1
  rw[h1];rw[if_neg (by decide)];rw[h1,Bool.false_and] at q;exact q
theorem st1 (S:State)(r c:Nat)(l:List Nat):GridTalkNeutral.step S [[1,(r:Int),(c:Int)],l.map λn:Nat=>(n:Int)]=
  if sized r=false\/sized c=false\/l.length≠r*c then(S,[-2]) else if 16<=S.table.length then(S,[-5]) else(⟨S.a,S.m,S.table++[⟨r,c,rowsOf c r l⟩]⟩,[(S.table.length:Int)]):=by
 show((GridTalk.step S (.matrix (r:Int).toNat (c:Int).toNat (GridTalkNeutral.nats _))).1,GridTalkNeutral.shown (GridTalk.step S (.matrix (r:Int).toNat (c:Int).toNat (GridTalkNeutral.nats _))).2)=_;rw[toNat_natCast,toNat_natCast,dj.jV];unfold GridTalk.step;show((if sized r=false\/sized c=false\/l.length≠r*c then(S,GridTalk.number (-2)) else if 16<=S.table.length then(S,GridTalk.number (-5)) else _).1,GridTalkNeutral.shown (if sized r=false\/sized c=false\/l.length≠r*c then(S,GridTalk.number (-2)) else if 16<=S.table.length then(S,GridTalk.number (-5)) else _).2)=_;split
 ·rfl
 ·split<;>rfl
theorem Bp (l:List Nat):(l.map λn:Nat=>(n:Int)).map V.int=l.map λn:Nat=>V.int n:=by rw[map_map];rfl
theorem Ur (G:aU K mg a):bI P w K mg aq "call_matrix" a.uM 3 ["board","numbers","rows"] (iy a 1):=G.QL.bx λfd F=>by
 have jO:=@xK P w K mg aq a G;refine F.ok Qp eX (λy A y s H vs Q E hr h=>?_);obtain⟨b,t,nums,rws,av,S,ns,rs,as,rfl,hB,hn,hr1,hp,hav,f9,q⟩:=h;obtain⟨r,c,l,rfl,rfl,hr2,hc,hl,hw⟩:=dj.Oc (.inl rfl) f9;rw[st1] at q;cases hp with
 |cons hp1 hp2=>
 cases hp2;rename_i e;obtain⟨he,hea⟩:=hp1;rw[Bp] at he;refine⟨_,(aC (cC (mY (iG (aD (Ke G) (bC (aJ aH aR au) (bB (aJ aH aR au) (aJ aH bf au)))))) (ak (aG (bK (bG (bL rfl G.NO_MATRIX))))) bN) (aC (cC (bY (dD (cF bU (by rfl) G.fX PySem.boot_len (bG (aQ aK rfl))) (bL rfl G.T4))) (ak (aG (bK (bG (bL rfl G.TY))))) bN)
   (aC (eZ (iZ plainAttrs_list PySem.F.slot_list_append PySem.F.type_list_append gK (aQ aK rfl) (bG (iC jO (bC (aJ aH aR au) (bB (aJ aH aR au) (aJ aH bf au))))))) (ak (aG (bK (bG (bD lF (cF bU (by rfl) G.fX PySem.boot_len (bG (aQ aK rfl))) au)))))))),?_⟩
 simp_arith! [JL G hB];refine aL (aF.of hn) (bQ rfl) (aL (aF.of hn) (cT rfl) (aL (aF.of hr1) (bQ rfl) ⟨r,c,e,_,rfl,aF.of he,_,rfl,?_⟩));rw[length_map];by_cases hm:sized r=false\/sized c=false\/l.length≠r*c
 ·rw[if_pos hm] at q;have e1:(!(sized r&&(sized c&&decide (l.length=r*c))))=true:=by
   rcases hm with h|h|h
   ·rw[h];rfl
   ·rw[h];simp
   ·rw[decide_eq_false h];simp
  rw[e1];rw[if_pos rfl];refine⟨by decide,λp np=>?_⟩;have s1:aA H (aN H p (.aB [.int (-2)])):=aA.laid np;exact q _ p t (hB.same s1) ao s1.but (.inl rfl) np
 ·rw[if_neg hm] at q;have h1:sized r=true:=by cases h:sized r;exact absurd (.inl h) hm;rfl
  have h2:sized c=true:=by cases h:sized c;exact absurd (.inr (.inl h)) hm;rfl
  have h3:l.length=r*c:=Classical.byContradiction λh=>hm (.inr (.inr h));rw[h1,h2,decide_eq_true h3];rw[if_neg (by decide)];obtain⟨dx,p0,ts,b1,b2,b3,b4⟩:=hB.ex;have hts:ts.length=S.table.length:=Paired.length b4;simp_arith! [JL G hB];refine⟨t,_,rfl,.inl (aF.of b3),?_⟩;rw[length_map];by_cases qL:16<=S.table.length
  ·rw[if_pos qL] at q;have:ts.length=16:=by have:=hB.len;lia
   ac_rfl;rw[if_pos (by lia)];refine⟨by decide,λp np=>?_⟩;have s1:aA H (aN H p (.aB [.int (-5)])):=aA.laid np;exact q _ p t (hB.same s1) ao s1.but (.inl rfl) np
  ·rw[if_neg qL] at q;ac_rfl;rw[if_neg (by lia)];simp_arith! [Ge,JL G hB];refine⟨.inl ⟨rfl,_,aF.of b3⟩,aL (aF.of hn) (bQ rfl) (aL (aF.of hn) (cT rfl) (aL (aF.of hr1) (bQ rfl) (rR (h:=r) (c:=c) rfl rfl λp H1 np s1 hpt=>?_)))⟩;have ZX:p≠t:=λz=>by rw[z,b3] at np;cases np
   obtain⟨dg,hpt⟩:=hpt;have hsz:(ts.map V.ref).length<sizeLine:=by rw[length_map];exact cD (by lia)
   refine⟨t,ts.map V.ref,.ref p,rfl,rfl,s1 _ _ b3,hsz,?_⟩;have w2:But [t] H1 (aN H1 t (.aB (ts.map V.ref++[.ref p]))):=But.wrote;have t2:aN H1 t (.aB (ts.map V.ref++[.ref p])) t=some (.aB ((ts++[p]).map V.ref)):=by rw[ao,map_append];rfl
   have f2:∀z,aN H1 t (.aB (ts.map V.ref++[.ref p])) z=none->H1 z=none:=λz hz=>by
    by_cases ez:z=t
    ·rw[ez,ao] at hz;cases hz
    ·rw[aO ez] at hz;exact hz
   generalize aN H1 t (.aB (ts.map V.ref++[.ref p]))=H2 at w2 t2 f2⊢;have Ip:b≠t:=vg b1 b3 (by intro z;cases z);obtain⟨dp,b2⟩:=b2;have n0:p0≠t:=vg b2 b3 (by intro z;cases z);have hs1:=Vl.dY.mp h1;have hs2:=Vl.dY.mp h2;have hB2:cP a H2 av b t ⟨S.a,S.m,S.table++[⟨r,c,rowsOf c r l⟩]⟩:=by
    refine⟨⟨dx,p0,ts++[p],w2 _ _ (s1 _ _ b1) (by simp[Ip]),⟨dp,w2 _ _ (s1 _ _ b2) (by simp[n0])⟩,t2,Paired.snoc (d8 (λq M m=>?_) b4) ?_⟩,hB.ar,hB.m,?_,hB.nav⟩
    ·obtain⟨e',l',⟨dg2,m1⟩,m2,m3,m4⟩:=m.ex;have n1:q≠t:=vg m1 b3 (by intro z;cases z);have n2:e'≠t:=λz=>m3 (by simp[z]);exact⟨⟨e',l',⟨dg2,w2 _ _ (s1 _ _ m1) (by simp[n1])⟩,w2 _ _ (s1 _ _ m2) (by simp[n2]),m3,m4⟩,m.r1,m.r2,m.c1,m.c2⟩
    ·have n2:e≠t:=λz=>hea (by simp[z]);exact⟨⟨e,l,⟨dg,w2 _ _ hpt (by simp[ZX])⟩,w2 _ _ (s1 _ _ he) (by simp[n2]),hea,h3,rfl,hw⟩,hs1.1,hs1.2,hs2.1,hs2.2⟩
    ·show(S.table++[_]).length<=16;rw[length_append];simp;lia
   simp_arith! [JL G hB2];refine⟨t,_,rfl,.inl (aF.of t2),by decide,λz nz=>?_⟩;have s3:aA H2 (aN H2 z (.aB [.int ((((ts++[p]).map V.ref).length:Int)-1)])):=aA.laid nz;have e5:((((ts++[p]).map V.ref).length:Int)-1)=(S.table.length:Int):=by
    rw[length_map,length_append, <-hts];simp
   rw[e5] at s3⊢;refine q _ z t (hB2.same s3) ao ((s1.but.trans (w2.trans s3.but)).mono (by simp)) (.inl rfl) (s1.free (f2 z nz))
theorem st2 (S:State):GridTalkNeutral.step S [[2]]=(⟨S.a,S.m,[]⟩,[0]):=rfl
theorem Xl (G:aU K mg a):bI P w K mg aq "call_clear" a.wN 1 ["board","numbers","rows"] (iy a 2):=G.Ue.bx λfd F=>by
 refine F.ok Tz eX (λy A y s H vs Q E hr h=>?_);obtain⟨b,t,nums,rws,av,S,ns,rs,as,rfl,hB,hn,hr1,hp,hav,f9,q⟩:=h;obtain⟨rfl,rfl⟩:=dj.none_ f9;rw[st2] at q;refine⟨_,(aC (fH aK (bK dM) rfl) (ak (aG (bK (bG (bL rfl G.Qx)))))),?_⟩;ac_rfl;refine⟨zero_le _,λt' nt'=>?_⟩;obtain⟨dx,p0,ts,b1,⟨dp,b2⟩,b3,b4⟩:=hB.ex;have Ip:t'≠b:=λz=>by rw[z,b1] at nt';cases nt'
 rw[cY (dx:=dx) (fs:=ug p0 t) (C:=a.jg) (by rw[aO (Ne.symm Ip)];exact b1) G.jY G.oh (ZW _ _),bdF_putT];refine⟨by decide,λp np=>?_⟩;have Xk:p≠b:=λz=>by rw[z,ao] at np;cases np
 have ZX:p≠t':=λz=>by rw[z,aO Ip,ao] at np;cases np
 have np0:H p=none:=by rw[aO Xk,aO ZX] at np;exact np
 have n0:p0≠b:=vg b2 b1 (by intro z;injection z with _ _ z;exact bd_ne_ar z.symm)
 have n0t:p0≠t':=aW b2 nt';have n0p:p0≠p:=aW b2 np0;refine q _ p t' ⟨⟨dx,p0,[],?_,⟨dp,?_⟩,?_,.nil⟩,hB.ar,hB.m,zero_le _,λz=>hav _ z nt'⟩ ao ?_ (.inr nt') np0
 ·rw[aO (Ne.symm Xk),ao]
 ·rw[aO n0p,aO n0,aO n0t];exact b2
 ·rw[aO (Ne.symm ZX),aO Ip,ao];rfl
 ·intro c o e n;have n1:c≠b:=λz=>n (by simp[z]);rw[aO (aW e np0),aO n1,aO (aW e nt')];exact e
theorem sh_word (A:Arith)(z:Int):(GridTalkNeutral.shown (wordTold A z)).map V.int=if jo A z=.non then[.int (-8)] else[.int 0,jo A z]:=by
 unfold wordTold jo;cases A.word z with
 |none=>rw[if_pos rfl];rfl
 |some w=>rw[if_neg (by intro h;cases h)];rfl
inductive spAnsM (a:Ad)(vs:List V)(H:Hp)(Q:VK)(E:XK):Prop where
 |mk (p:Addr) (k m:Nat) (A:Arith) (z:Int) (cI:vs=[.ref p,.int z]) (cJ:dO a H p k m) (cQ:arith k m=some A) (dH:Ar.Dom k z) (fC:∀(Z:Hp) (q:Addr),aA H Z->H q=none->Z q=some (.aB ((GridTalkNeutral.shown (wordTold A z)).map V.int))->Q (.ref q) Z)
theorem oR (G:aU K mg a):bI P w K mg aq "answer_meaning" a.wO 2 ["arithmetic","meaning"] (spAnsM a):=G.J9.bx λfd F=>by
 refine F.ok uW (λvs H Q E h=>?_) (λy A y s H vs Q E hr h=>?_)
 ·obtain⟨p,k,m,A,x,rfl,_⟩:=h;rfl
 obtain⟨p,k,m,A,z,rfl,hA,O,hd,q⟩:=h;rw[sh_word] at q;refine⟨_,(aC (aX 2 uW.nd (aD (Sx G) (bB aK aR))) (aC (cC (bY (sI bf)) (ak (aG (bK (bG (bL rfl G.Hr))))) bN) (ak (aG (bK (bB (bL rfl G.Qx) bf)))))),?_⟩;ac_rfl;refine⟨p,k,m,A,z,rfl,hA,O,hd,?_⟩;simp_arith! [mL];by_cases h:jo A z=.non
 ·rw[if_pos h] at q⊢;exact⟨by decide,λl nl=>q _ l (aA.laid nl) nl ao⟩
 ·rw[if_neg h] at q⊢;exact⟨by decide,λl nl=>q _ l (aA.laid nl) nl ao⟩
inductive spAnsO (P:Program)(w:World)(K:Frag)(mg:Str->Option Value)(aq:Heap)(a:Ad)(vs:List V)(H:Hp)(Q:VK)(E:XK):Prop where
 |mk (p f l:Addr) (k m:Nat) (A:Arith) (x y:Nat) (nm:Str) (g:Arith->Int->Int->Int) (C:Nat->Arith->Int->Int->Prop) (cI:vs=[.ref p,.ref f,.ref l]) (cJ:dO a H p k m) (cQ:arith k m=some A) (dH:m<18446744073709551616) (fC:H l=some (.aB [.int x,.int y])) (gF:x<18446744073709551616) (iQ:y<18446744073709551616) (kE:bI P w K mg aq nm f 2 ["arithmetic","x","y"] (W6 a g C)) (ud:C k A (A.mean x) (A.mean y)) (Bm:Ar.Dom k (g A (A.mean x) (A.mean y))) (zP:∀(Z:Hp) (q:Addr),aA H Z->H q=none->Z q=some (.aB ((GridTalkNeutral.shown (GridTalk.scalar A x y (g A))).map V.int))->Q (.ref q) Z)
theorem lQ (G:aU K mg a):bI P w K mg aq "answer_operation" a.tL 3 ["arithmetic","operation","words"] (spAnsO P w K mg aq a):=G.Ft.bx λfd F=>by
 refine F.ok lg (λvs H Q E h=>?_) (λv A v s H vs Q E hr h=>?_)
 ·obtain⟨p,f,l,k,m,A,x,y,nm,g,C,rfl,_⟩:=h;rfl
 obtain⟨p,f,l,k,m,A,x,y,nm,g,C,rfl,hA,O,hm,hl,hx,hy,D,hC,hd,q⟩:=h;refine⟨_,(aC (cC (mY (iG (aD (uQ G) (bB aK bf)))) (ak (aG (bK (bG (bL rfl G.yI))))) bN) (aC (aX 3 lg.nd (aD (lN G) (bB aK (aJ aH bf au)))) (aC (aX 4 lg.nd (aD (lN G) (bB aK (aJ aH bf au)))) (ak (aG (aD (oR G) (bB aK (jT aR (bC aK (bB bF cM)))))))))),?_⟩;ac_rfl;have hw:∀z∈[x,y],z<18446744073709551616:=λz hz=>by simp at hz;rcases hz with rfl|rfl<;>assumption
 refine⟨p,l,k,m,A,[x,y],rfl,hA,O,aF.of hl,hw,by show 2<=100000;decide,λH1 s1=>?_⟩;ac_rfl;by_cases hn:[x,y].all A.number=true
 ·rw[hn];rw[if_neg (by decide)];have hnx:A.number x=true:=by simp at hn;exact hn.1
  have hny:A.number y=true:=by simp at hn;exact hn.2
  have hl1:=s1 _ _ hl;refine aL (aF.of hl1) (bQ rfl) ⟨p,k,m,A,x,rfl,hA.same s1,O,hx,?_⟩;ac_rfl;refine aL (aF.of hl1) (cT rfl) ⟨p,k,m,A,y,rfl,hA.same s1,O,hy,?_⟩;ac_rfl;refine aY D hr.mono ⟨p,k,m,A,_,_,rfl,hA.same s1,O,hm,Ar.eN O _ hx,Ar.eN O _ hy,hC,?_⟩;ac_rfl;refine⟨p,k,m,A,_,rfl,hA.same s1,O,hd,λH2 o s2 no ho=>q H2 o (s1.trans s2) (s1.free no) ?_⟩;have e:GridTalk.scalar A x y (g A)=wordTold A (g A (A.mean x) (A.mean y)):=by
   unfold GridTalk.scalar;rw[if_neg];rintro(h|h)
   ·rw[hnx] at h;cases h
   ·rw[hny] at h;cases h
  rw[e];exact ho
 ·have hn:[x,y].all A.number=false:=by simpa using hn
  rw[hn];rw[if_pos (by decide)];refine⟨by decide,λo no=>q _ o (s1.trans (aA.laid no)) (s1.free no) ?_⟩;rw[ao];have e:GridTalk.scalar A x y (g A)=GridTalk.number (-7):=by
   unfold GridTalk.scalar;rw[if_pos];cases h1:A.number x with
   |false=>exact .inl rfl
   |true=>
    cases h2:A.number y with
    |false=>exact .inr rfl
    |true=>simp[h1,h2] at hn
  rw[e];rfl
theorem r_ar (G:aU K mg a){H:Hp}{av:List Addr}{b t:Addr}{S:State}(h:cP a H av b t S):∃p,dO a H p S.a S.m/\∀Q:VK,gn K "arithmetic" (.ref b) H Q↔Q (.ref p) H:=by
 obtain⟨dx,p,ts,h1,h2,_⟩:=h.ex;exact⟨p,h2,λQ=>dJ h1 G.jY G.gQ (Xi p t)⟩
theorem mean_mul {k m:Nat}{A:Arith}(h:arith k m=some A){x:Nat}(hx:x<18446744073709551616){z:Int}:k<=2->zj (A.mean x) z:=by
 intro h2;refine .inl ?_;rcases Ar.cV h with⟨rfl,rfl,rfl⟩|⟨rfl,m1,m2,rfl⟩|⟨rfl,rfl,rfl⟩|⟨rfl,rfl,rfl⟩|⟨rfl,rfl,rfl⟩|⟨rfl,rfl,rfl⟩|⟨rfl,rfl,rfl⟩|⟨rfl,m2,rfl⟩
 ·show-(2^64)<(x:Int)/\(x:Int)<2^64;lia
 ·show-(2^64)<(x:Int)/\(x:Int)<2^64;lia
 ·show-(2^64)<signed x/\signed x<2^64;unfold signed;have e1:(WORD:Int)=18446744073709551616:=rfl;have e2:HALF=9223372036854775808:=rfl;rw[e1,e2];split<;>lia
 all_goals lia
theorem stN (S:State){A:Arith}(hA:arith S.a S.m=some A)(c:GridTalk.Call)(h:∀a m,c≠ .arithmetic a m)(h':∀r c' l,c≠ .matrix r c' l)(h'':c≠ .clear):GridTalk.step S c=(S,S.asks A c):=by
 unfold GridTalk.step;cases c with
 |arithmetic a m=>exact absurd rfl (h a m)
 |matrix r c' l=>exact absurd rfl (h' r c' l)
 |clear=>exact absurd rfl h''
 |_=>simp only[hA]
theorem st3 (S:State){A:Arith}(hA:arith S.a S.m=some A)(x y:Nat):GridTalkNeutral.step S [[3,(x:Int),(y:Int)]]=(S,GridTalkNeutral.shown (GridTalk.scalar A x y A.plus)):=by
 show((GridTalk.step S (.plus (x:Int).toNat (y:Int).toNat)).1,GridTalkNeutral.shown (GridTalk.step S (.plus (x:Int).toNat (y:Int).toNat)).2)=_;rw[toNat_natCast,toNat_natCast,stN S hA _ (λz z h=>by cases h) (λz z z h=>by cases h) (λh=>by cases h)];rfl
theorem st4 (S:State){A:Arith}(hA:arith S.a S.m=some A)(x y:Nat):GridTalkNeutral.step S [[4,(x:Int),(y:Int)]]=(S,GridTalkNeutral.shown (if A.minus.isNone=true then GridTalk.number (-4) else GridTalk.scalar A x y A.less)):=by
 show((GridTalk.step S (.minus (x:Int).toNat (y:Int).toNat)).1,GridTalkNeutral.shown (GridTalk.step S (.minus (x:Int).toNat (y:Int).toNat)).2)=_;rw[toNat_natCast,toNat_natCast,stN S hA _ (λz z h=>by cases h) (λz z z h=>by cases h) (λh=>by cases h)];rfl
theorem st5 (S:State){A:Arith}(hA:arith S.a S.m=some A)(x y:Nat):GridTalkNeutral.step S [[5,(x:Int),(y:Int)]]=(S,GridTalkNeutral.shown (GridTalk.scalar A x y A.times)):=by
 show((GridTalk.step S (.times (x:Int).toNat (y:Int).toNat)).1,GridTalkNeutral.shown (GridTalk.step S (.times (x:Int).toNat (y:Int).toNat)).2)=_;rw[toNat_natCast,toNat_natCast,stN S hA _ (λz z h=>by cases h) (λz z z h=>by cases h) (λh=>by cases h)];rfl
theorem YL (G:aU K mg a):bI P w K mg aq "call_plus" a.zJ 4 ["board","numbers","rows"] (iy a 3):=G.W5.bx λfd F=>by
 refine F.ok Ww eX (λz A z s H vs Q E hr h=>?_);obtain⟨b,t,nums,rws,av,S,ns,rs,as,rfl,hB,hn,hr1,hp,hav,f9,q⟩:=h;obtain⟨x,y,rfl,rfl,hx,hy⟩:=dj.two (.inr (.inl rfl)) f9;obtain⟨A,O⟩:=isSome_iff_exists.mp hB.ar;rw[st3 S O] at q;obtain⟨p,hA,hF⟩:=r_ar G hB;refine⟨_,(ak (aG (aD (lQ G) (bC (aQ aK rfl) (bB (jc rfl (@W7 P w K mg aq a G).v8) aR))))),?_⟩;simp_arith! [hF];exact⟨p,a.Wx,nums,S.a,S.m,A,x,y,"plus",(λA=>A.plus),TrueC,rfl,hA,O,hB.m,hn,hx,hy,(W7 G),trivial,Ar.jU O _ _ (Ar.eN O _ hx) (Ar.eN O _ hy),λZ o s1 no ho=>q Z o t (hB.same s1) ho s1.but (.inl rfl) no⟩
theorem Xm (G:aU K mg a):bI P w K mg aq "call_times" a.wR 4 ["board","numbers","rows"] (iy a 5):=G.Uh.bx λfd F=>by
 refine F.ok TQ eX (λz A z s H vs Q E hr h=>?_);obtain⟨b,t,nums,rws,av,S,ns,rs,as,rfl,hB,hn,hr1,hp,hav,f9,q⟩:=h;obtain⟨x,y,rfl,rfl,hx,hy⟩:=dj.two (.inr (.inr (.inr (.inl rfl)))) f9;obtain⟨A,O⟩:=isSome_iff_exists.mp hB.ar;rw[st5 S O] at q;obtain⟨p,hA,hF⟩:=r_ar G hB;refine⟨_,(ak (aG (aD (lQ G) (bC (aQ aK rfl) (bB (jc rfl (@vU P w K mg aq a G).v8) aR))))),?_⟩;simp_arith! [hF];exact⟨p,a.Qq,nums,S.a,S.m,A,x,y,"times",(λA=>A.times),MulC,rfl,hA,O,hB.m,hn,hx,hy,(vU G),mean_mul O hx,Ar.dX O _ _ (Ar.eN O _ hx) (Ar.eN O _ hy),λZ o s1 no ho=>q Z o t (hB.same s1) ho s1.but (.inl rfl) no⟩
theorem Xo (G:aU K mg a):bI P w K mg aq "call_minus" a.wQ 4 ["board","numbers","rows"] (iy a 4):=G.Ug.bx λfd F=>by
 refine F.ok TJ eX (λz A z s H vs Q E hr h=>?_);obtain⟨b,t,nums,rws,av,S,ns,rs,as,rfl,hB,hn,hr1,hp,hav,f9,q⟩:=h;obtain⟨x,y,rfl,rfl,hx,hy⟩:=dj.two (.inr (.inr (.inl rfl))) f9;obtain⟨A,O⟩:=isSome_iff_exists.mp hB.ar;rw[st4 S O] at q;obtain⟨p,hA,hF⟩:=r_ar G hB;refine⟨_,(aC (cC (mY (iG (aD (zO G) (bG (aQ aK rfl))))) (ak (aG (bK (bG (bL rfl G.Hq))))) bN) (ak (aG (aD (lQ G) (bC (aQ aK rfl) (bB (jc rfl (@JH P w K mg aq a G).v8) aR)))))),?_⟩;simp_arith! [hF];refine⟨p,S.a,S.m,A,rfl,hA,O,_,rfl,?_⟩;by_cases hm:A.minus.isSome=true
 ·have hm':¬A.minus.isNone=true:=by cases h:A.minus<;>simp[h] at hm⊢
  rw[if_neg hm'] at q;rw[hm];rw[if_neg (by decide)];simp_arith! [hF];exact⟨p,a.Qs,nums,S.a,S.m,A,x,y,"minus",(λA=>A.less),MinC,rfl,hA,O,hB.m,hn,hx,hy,(JH G),hm,Ar.wu O _ _ (Ar.eN O _ hx) (Ar.eN O _ hy),λZ o s1 no ho=>q Z o t (hB.same s1) ho s1.but (.inl rfl) no⟩
 ·have hm':A.minus.isNone=true:=by cases h:A.minus<;>simp[h] at hm⊢
  rw[if_pos hm'] at q;have hm2:A.minus.isSome=false:=by simpa using hm
  rw[hm2];rw[if_pos (by decide)];refine⟨by decide,λo no=>?_⟩;have s1:aA H (aN H o (.aB [.int (-4)])):=aA.laid no;exact q _ o t (hB.same s1) ao s1.but (.inl rfl) no
theorem r_ar2 (G:aU K mg a){H:Hp}{av:List Addr}{b t:Addr}{S:State}(h:cP a H av b t S):∃p,dO a H p S.a S.m/\∀(Z:Hp),aA H Z->∀Q:VK,gn K "arithmetic" (.ref b) Z Q↔Q (.ref p) Z:=by
 obtain⟨dx,p,ts,h1,h2,_⟩:=h.ex;exact⟨p,h2,λZ s Q=>dJ (s _ _ h1) G.jY G.gQ (Xi p t)⟩
theorem SQ (A:Arith):∀l k:List Nat,zipWith A.times (l.map A.mean) (k.map A.mean)=(l.zip k).map λ(p:Nat×Nat)=>A.times (A.mean p.1) (A.mean p.2)
 |[],_=>by simp
 |_::_,[]=>by simp
 |x::l,y::k=>by simp[SQ A l k]
theorem O4 {k m:Nat}{A:Arith}(h:arith k m=some A){x:Nat}(hx:x<18446744073709551616):k<=2-> -(2^64)<A.mean x/\A.mean x<2^64:=by
 intro h2;rcases Ar.cV h with⟨rfl,rfl,rfl⟩|⟨rfl,m1,m2,rfl⟩|⟨rfl,rfl,rfl⟩|⟨rfl,rfl,rfl⟩|⟨rfl,rfl,rfl⟩|⟨rfl,rfl,rfl⟩|⟨rfl,rfl,rfl⟩|⟨rfl,m2,rfl⟩
 ·show-(2^64)<(x:Int)/\(x:Int)<2^64;lia
 ·show-(2^64)<(x:Int)/\(x:Int)<2^64;lia
 ·show-(2^64)<signed x/\signed x<2^64;unfold signed;have e1:(WORD:Int)=18446744073709551616:=rfl;have e2:HALF=9223372036854775808:=rfl;rw[e1,e2];split<;>lia
 all_goals lia
theorem told_eq {A:Arith}{z t:Int}(h:A.word z=A.word t):wordTold A z=wordTold A t:=by unfold wordTold;rw[h]
theorem st6 (S:State){A:Arith}(hA:arith S.a S.m=some A)(x y:Nat):GridTalkNeutral.step S [[6,(x:Int),(y:Int)]]=(S,GridTalkNeutral.shown (if GridTalk.RAISE<y then GridTalk.number (-6) else if A.number x=false then GridTalk.number (-7) else wordTold A (A.raise (A.mean x) y))):=by
 show((GridTalk.step S (.raise (x:Int).toNat (y:Int).toNat)).1,GridTalkNeutral.shown (GridTalk.step S (.raise (x:Int).toNat (y:Int).toNat)).2)=_;rw[toNat_natCast,toNat_natCast,stN S hA _ (λz z h=>by cases h) (λz z z h=>by cases h) (λh=>by cases h)];rfl
theorem Ir {k m:Nat}{A:Arith}(O:arith k m=some A){x:Int}(hx:Ar.Dom k x):∀e,Ar.Dom k (A.raise x e)
 |0=>Ar.vO O
 |e+1=>Ar.dX O _ _ (Ir O hx e) hx
theorem Xp (G:aU K mg a):bI P w K mg aq "call_raise" a.wV 4 ["board","numbers","rows"] (iy a 6):=G.Ui.bx λfd F=>by
 refine F.ok j8 eX (λz A z s H vs Q E hr h=>?_);obtain⟨b,t,nums,rws,av,S,ns,rs,as,rfl,hB,hn,hr1,hp,hav,f9,q⟩:=h;obtain⟨x,y,rfl,rfl,hx,hy⟩:=dj.two (.inr (.inr (.inr (.inr rfl)))) f9;obtain⟨A,O⟩:=isSome_iff_exists.mp hB.ar;rw[st6 S O] at q;obtain⟨p,hA,Xq⟩:=r_ar2 G hB;have hF:=Xq H (aA.refl _);refine⟨_,(aC (cC (bY (Mw (aJ aH aR au) (bL rfl G.J2))) (ak (aG (bK (bG (bL rfl G.uN))))) bN)
   (aC (cC (mY (iG (aD (Ib G) (bB (aQ aK rfl) (aJ aH aR au))))) (ak (aG (bK (bG (bL rfl G.yI))))) bN) (aC (aX 3 j8.nd (aD (lN G) (bB (aQ aK rfl) (aJ aH aR au)))) (aC (aX 4 j8.nd (aD (Mp G) (bG (aQ aK rfl)))) (aC (fB PassesOwn.never rfl (lE rfl G.kW (bG (aJ aH aR au))) (bM (i:=5) j8.nd rfl (Or.inl rfl)) (ak (aX 4 j8.nd (aD (vU G) (bC (aQ aK rfl) (bB cM bF)))))) (ak (aG (aD (oR G) (bB (aQ aK rfl) cM))))))))),?_⟩
 simp_arith! [eH,hF];refine aL (aF.of hn) (cT rfl) ?_;ac_rfl;by_cases h1000:1000<y
 ·rw[if_pos (by lia)];rw[if_pos (show GridTalk.RAISE<y from h1000)] at q;refine⟨by decide,λo no=>?_⟩;have s1:aA H (aN H o (.aB [.int (-6)])):=aA.laid no;exact q _ o t (hB.same s1) ao s1.but (.inl rfl) no
 rw[if_neg (by lia)];rw[if_neg (show¬GridTalk.RAISE<y from h1000)] at q;rw[hF];refine aL (aF.of hn) (bQ rfl) ⟨p,S.a,S.m,A,x,rfl,hA,O,hx,_,rfl,?_⟩;cases hnx:A.number x with
 |false=>
  rw[if_pos (by decide)];rw[hnx,if_pos rfl] at q;refine⟨by decide,λo no=>?_⟩;have s1:aA H (aN H o (.aB [.int (-7)])):=aA.laid no;exact q _ o t (hB.same s1) ao s1.but (.inl rfl) no
 |true=>
  rw[if_neg (by decide)];rw[hnx,if_neg (by decide)] at q;rw[hF];refine aL (aF.of hn) (bQ rfl) ⟨p,S.a,S.m,A,x,rfl,hA,O,hx,?_⟩;simp_arith! [hF];refine⟨p,S.a,S.m,A,rfl,hA,O,aL (aF.of hn) (cT rfl) ?_⟩;simp_arith! [eH,hF];refine⟨by lia,by lia,?_⟩;rw[toNat_natCast];refine yc (n:=y) (λi σ Z=>Z=H/\∃v,σ=[some (.ref b),some (.ref nums),some (.ref rws),some (.int (A.mean x)),some (.int (A.raise (A.mean x) i)),v]) ⟨rfl,none,rfl⟩ ?_ ?_
  ·rintro i σ Z hi ⟨rfl,v,rfl⟩;simp_arith! [hF];exact⟨p,S.a,S.m,A,_,_,rfl,hA,O,hB.m,Ir O (Ar.eN O _ hx) i,Ar.eN O _ hx,λh=>.inr (O4 O hx h),rfl,_,rfl⟩
  ·rintro σ Z ⟨rfl,v,rfl⟩;simp_arith! [hF];exact⟨p,S.a,S.m,A,_,rfl,hA,O,Ir O (Ar.eN O _ hx) y,λZ o s1 no ho=>q Z o t (hB.same s1) ho s1.but (.inl rfl) no⟩
theorem st7 (S:State){A:Arith}(hA:arith S.a S.m=some A)(l k:List Nat):GridTalkNeutral.step S [[7],l.map λn:Nat=>(n:Int),k.map λn:Nat=>(n:Int)]=(S,GridTalkNeutral.shown (S.asks A (.dot l k))):=by
 show((GridTalk.step S (.dot (GridTalkNeutral.nats (l.map λn:Nat=>(n:Int))) (GridTalkNeutral.nats (k.map λn:Nat=>(n:Int))))).1,GridTalkNeutral.shown (GridTalk.step S (.dot (GridTalkNeutral.nats (l.map λn:Nat=>(n:Int))) (GridTalkNeutral.nats (k.map λn:Nat=>(n:Int))))).2)=_;rw[dj.jV,dj.jV,stN S hA _ (λz z h=>by cases h) (λz z z h=>by cases h) (λh=>by cases h)]
theorem d_call_dot (G:aU K mg a):bI P w K mg aq "call_dot" a.CV 4 ["board","numbers","rows"] (iy a 7):=G.YK.bx λfd F=>by
 refine F.ok zH eX (λy A y s H vs Q E hr h=>?_);obtain⟨b,t,nums,rws,av,S,ns,rs,as,rfl,hB,hn,hr1,hp,hav,f9,q⟩:=h;obtain⟨l,k,rfl,rfl,hl,hkl,lq,QZ⟩:=dj.Jz (.inl rfl) f9;obtain⟨A,O⟩:=isSome_iff_exists.mp hB.ar;rw[st7 S O] at q;obtain⟨p,hA,Xq⟩:=r_ar2 G hB;have hF:=Xq H (aA.refl _);cases hp with
 |cons hp0 hp1=>
 cases hp1 with
 |cons hp1 hp2=>
 cases hp2;rename_i l0 l1;obtain⟨hp0,_⟩:=hp0;obtain⟨hp1,_⟩:=hp1;rw[Bp] at hp0 hp1;refine⟨_,(aC (cC (bY (Mx (cF bU (by rfl) G.fX PySem.boot_len (bG (aJ aH bf au))) (cF bU (by rfl) G.fX PySem.boot_len (bG (aJ aH bf au))))) (ak (aG (bK (bG (bL rfl G.uN))))) bN)
   (aC (cC (mY (iG (aD (uQ G) (bB (aQ aK rfl) (bD sO (aJ aH bf au) (aJ aH bf au)))))) (ak (aG (bK (bG (bL rfl G.yI))))) bN) (aC (aX 3 zH.nd (aD (ou G) (bB (aQ aK rfl) (aJ aH bf au)))) (aC (aX 4 zH.nd (aD (ou G) (bB (aQ aK rfl) (aJ aH bf au)))) (ak (aG (aD (oR G) (bB (aQ aK rfl) (aD (u9 G) (bC (aQ aK rfl) (bB bF cM))))))))))),?_⟩
 simp_arith! [hF];refine aL (aF.of hr1) (bQ rfl) ⟨l0,_,rfl,.inl (aF.of hp0),aL (aF.of hr1) (cT rfl) ⟨l1,_,rfl,.inl (aF.of hp1),?_⟩⟩;simp_arith! [hF];have q:∀(Z:Hp) (q t':Addr),cP a Z av b t' S->Z q=some (.aB ((GridTalkNeutral.shown (if l.length≠k.length then GridTalk.number (-6) else if (l++k).all A.number=false then GridTalk.number (-7) else wordTold A (A.total ((l.zip k).map λ(p:Nat×Nat)=>A.times (A.mean p.1) (A.mean p.2))))).map V.int))->But [b,t] H Z->(t'=t\/H t'=none)->H q=none->Q (.ref q) Z:=q;rw[length_map,length_map];by_cases hlk:l.length=k.length
 ·rw[if_pos (by lia)];rw[if_neg (by simpa using hlk)] at q;refine aL (aF.of hr1) (bQ rfl) (aL (aF.of hr1) (cT rfl) ⟨l0,l1,_,_,rfl,rfl,hp0,hp1,?_,λc nc=>?_⟩)
  ·rw[length_map,length_map];have big:600+600<=sizeLine:=by decide
   lia
  rw[<-map_append];have s1:aA H (aN H c (.aB ((l++k).map λn:Nat=>V.int n))):=aA.laid nc;have hc:aN H c (.aB ((l++k).map λn:Nat=>V.int n)) c=some (.aB (vN (l++k))):=ao;generalize aN H c (.aB ((l++k).map λn:Nat=>V.int n))=H1 at s1 hc⊢;refine⟨p,c,S.a,S.m,A,l++k,rfl,hA.same s1,O,aF.of hc,?_,by rw[length_append];lia,λH2 s2=>⟨_,rfl,?_⟩⟩
  ·intro z hz;rcases mem_append.mp hz with hz|hz
   ·exact lq z hz
   ·exact QZ z hz
  have s3:=s1.trans s2;cases hall:(l++k).all A.number with
  |false=>
   rw[if_pos (by decide)];rw[hall,if_pos rfl] at q;refine⟨by decide,λo no=>?_⟩;have s4:=s3.trans (aA.laid (o:=.aB [.int (-7)]) no);exact q _ o t (hB.same s4) ao s4.but (.inl rfl) (s3.free no)
  |true=>
   rw[if_neg (by decide)];rw[hall,if_neg (by decide)] at q;rw[Xq _ s3];refine aL (aF.of (s3 _ _ hr1)) (bQ rfl) ⟨p,l0,S.a,S.m,A,l,rfl,hA.same s3,O,aF.of (s3 _ _ hp0),lq,by lia,λD H4 nD s4 hD=>?_⟩;have s5:=s3.trans s4
   try dsimp only
   rw[Xq _ s5];refine aL (aF.of (s5 _ _ hr1)) (cT rfl) ⟨p,l1,S.a,S.m,A,k,rfl,hA.same s5,O,aF.of (s5 _ _ hp1),QZ,by lia,λD2 H6 nD2 s6 hD2=>?_⟩;have s7:=s5.trans s6
   try dsimp only
   rw[Xq _ s7,Xq _ s7];have e1:H6 D=some (.aB (vI (l.map A.mean))):=by rw[vI,map_map];exact s6 _ _ hD
   have e2:H6 D2=some (.aB (vI (k.map A.mean))):=by rw[vI,map_map];exact hD2
   refine⟨p,D,D2,S.a,S.m,A,l.map A.mean,k.map A.mean,rfl,hA.same s7,O,hB.m,aF.of e1,aF.of e2,by rw[length_map,length_map];exact hlk,by rw[length_map];lia,?_,?_,?_,λz H8 y hz s8=>?_⟩
   ·intro z hz;obtain⟨n,hn1,rfl⟩:=mem_map.mp hz;exact Ar.eN O _ (lq n hn1)
   ·intro z hz;obtain⟨n,hn1,rfl⟩:=mem_map.mp hz;exact Ar.eN O _ (QZ n hn1)
   ·intro h2 z hz;obtain⟨n,hn1,rfl⟩:=mem_map.mp hz;exact O4 O (lq n hn1) h2
   ·have s9:=s7.trans s8;refine⟨p,S.a,S.m,A,z,rfl,hA.same s9,O,hz.d,λZ o Rn no ho=>?_⟩;rw[SQ] at hz;rw[told_eq hz.w] at ho;have Ro:=s9.trans Rn;exact q Z o t (hB.same Ro) ho Ro.but (.inl rfl) (s9.free no)
 ·rw[if_neg (by lia)];rw[if_pos (by simpa using hlk)] at q;refine⟨by decide,λo no=>?_⟩;have s1:aA H (aN H o (.aB [.int (-6)])):=aA.laid no;exact q _ o t (hB.same s1) ao s1.but (.inl rfl) no
abbrev iJ (H:Hp)(t:Addr)(s:Size):Prop:=H t=some (.tup [.int s.1,.int s.2])
inductive spSqr (vs:List V)(H:Hp)(Q:VK)(E:XK):Prop where
 |mk (t:Addr) (s:Size) (cI:vs=[.ref t]) (cJ:iJ H t s) (cQ:Q (.bl (s.1 == s.2)) H)
theorem sE (G:aU K mg a):bI P w K mg aq "is_square" a.KQ 1 ["size"] spSqr:=G.W3.bx λfd F=>by
 refine F.ok Wu (λvs H Q E h=>?_) (λy A y s H vs Q E hr h=>?_)
 ·obtain⟨t,s,rfl,_⟩:=h;rfl
 obtain⟨t,z,rfl,ht,q⟩:=h;refine⟨_,(ak (aG (fU (dD (aJ bT aK au) (aJ bT aK au))))),?_⟩;ac_rfl;refine bw (bR.of ht) (bQ rfl) (bw (bR.of ht) (cT rfl) ?_);ac_rfl;have e:decide ((z.1:Int)=(z.2:Int))=(z.1 == z.2):=by rw[Bool.eq_iff_iff];simp;lia
 rw[e];exact q
inductive DG (vs:List V)(H:Hp)(Q:VK)(E:XK):Prop where
 |mk (t:Addr) (b:Bool) (cI:vs=[.bl b,.ref t]) (cJ:Q (if b=true then .ref t else .non) H)
theorem fG (G:aU K mg a):bI P w K mg aq "size_if" a.R4 1 ["is_as_asked","size"] DG:=G.fn_size_if.bx λfd F=>by
 refine F.ok sc_size_if (λvs H Q E h=>?_) (λz A z s H vs Q E hr h=>?_)
 ·obtain⟨t,b,rfl,_⟩:=h;rfl
 obtain⟨t,b,rfl,q⟩:=h;refine⟨_,(ak (aG (iB (iG aK) aR mX))),?_⟩;ac_rfl;cases b with
 |true=>exact q
 |false=>exact q
inductive spStretch (vs:List V)(H:Hp)(Q:VK)(E:XK):Prop where
 |mk (x y z:Nat) (cI:vs=[.int x,.int y,.int z]) (cJ:Q (.bl (decide (1<=y)&&decide (x+y<=z))) H)
theorem Iu (G:aU K mg a):bI P w K mg aq "is_stretch" a.G9 1 ["first","count","length"] spStretch:=G.Ub.bx λfd F=>by
 refine F.ok Tv (λvs H Q E h=>?_) (λv A v s H vs Q E hr h=>?_)
 ·obtain⟨x,y,z,rfl,_⟩:=h;rfl
 obtain⟨x,y,z,rfl,q⟩:=h;refine⟨_,(ak (aG (jj (fU (Uw aR au)) (eF (fU (pc_le (bD jD aK aR) bf)))))),?_⟩;ac_rfl;by_cases h1:1<=y
 ·rw[if_pos (by lia)];rw[decide_eq_true h1,Bool.true_and] at q;have e:decide ((x:Int)+(y:Int)<=(z:Int))=decide (x+y<=z):=decide_eq_decide.mpr (by lia);rw[e];exact q
 ·rw[if_neg (by lia)];rw[decide_eq_false h1,Bool.false_and] at q;exact q
inductive gb (a:Ad)(C:List Nat->List Size->Prop)(tg:Bool->List Nat->List Size->Option Size)(vs:List V)(H:Hp)(Q:VK)(E:XK):Prop where
 |mk (p gv gs:Addr) (k m:Nat) (A:Arith) (given:List Nat) (ts:List Addr) (ss:List Size) (cI:vs=[.ref p,.ref gv,.ref gs]) (cJ:dO a H p k m) (cQ:arith k m=some A) (dH:H gv=some (.aB (vN given))) (fC:H gs=some (.aB (ts.map V.ref))) (gF:Paired (iJ H) ts ss) (iQ:C given ss) (kE:(tg A.minus.isSome given ss=none->∀Z,aA H Z->Q .non Z)) (ud:∀z t Z,tg A.minus.isSome given ss=some z->aA H Z->iJ Z t z->Q (.ref t) Z)
theorem dw {C tg}:∀vs H Q E,gb a C tg vs H Q E->vs.length=3:=by
 rintro vs H Q E ⟨p,gv,gs,k,m,A,given,ts,ss,rfl,_⟩;rfl
abbrev fK (b:Bool)(z:Size):Option Size:=if b=true then some z else none
theorem eO {H:Hp}{Q:VK}{E:XK}{b:Bool}{z:Size}(q1:fK b z=none->∀Z,aA H Z->Q .non Z)(q2:∀z' t Z,fK b z=some z'->aA H Z->iJ Z t z'->Q (.ref t) Z){t:Addr}{Z:Hp}(s:aA H Z)(ht:iJ Z t z):DG [.bl b,.ref t] Z Q E:=by
 refine⟨t,b,rfl,?_⟩;cases b with
 |true=>exact q2 z t Z rfl s ht
 |false=>exact q1 rfl Z s
theorem eqv_sz (z y:Size):PyData.eqv (.tuple [.int z.1,.int z.2]) (.tuple [.int y.1,.int y.2])=(z.1 == y.1&&z.2 == y.2):=by
 rw[Bool.eq_iff_iff];simp[PyData.eqv,PyData.eqvAll];lia
theorem U4 {K:Frag}{H:Hp}{t:Addr}{z:Size}(h:iJ H t z):Dp K H (.ref t) (.tuple [.int z.1,.int z.2]):=.tup (bR.of h) (.cons (.int _) (.cons (.int _) .nil))
theorem eq_sz {K:Frag}{H:Hp}{t u:Addr}{z y:Size}(h:iJ H t z)(h':iJ H u y){Q:VK}(q:Q (.bl (z.1 == y.1&&z.2 == y.2)) H):rEqD K (.ref t) (.ref u) H Q:=
 ⟨_,_,U4 h,U4 h',rfl,rfl,by rw[eqv_sz];exact q⟩
abbrev Z0 (ss:List Size):Size:=ss.getD 0 (0,0)
abbrev Z1 (ss:List Size):Size:=ss.getD 1 (0,0)
theorem yP (G:aU K mg a):bI P w K mg aq "size_of_nones" a.qe 2 ["arithmetic","given","sizes"] (gb a (λg ss=>∃r c,g=[r,c]) λmi g ss=>fK (sized (g.getD 0 0)&&sized (g.getD 1 0)) (g.getD 0 0,g.getD 1 0)):=G.LR.bx λfd F=>by
 refine F.ok Lj dw (λz A z s H vs Q E hr h=>?_);obtain⟨p,gv,gs,k,m,A,given,ts,ss,rfl,hA,O,hv,hg,hp,⟨r,c,rfl⟩,q1,q2⟩:=h;have hu2:=hr.units;refine⟨_,(ak (aG (aD (fG G) (bB (jj (aD (jr G) (bG (aJ aH aR au))) (eF (aD (jr G) (bG (aJ aH aR au))))) (jE (bB (aJ aH aR au) (aJ aH aR au))))))),?_⟩;ac_rfl;have q1:fK (sized r&&sized c) (r,c)=none->_:=q1;refine aL (aF.of hv) (bQ rfl) ⟨r,rfl,_,rfl,?_⟩;cases hb:sized r with
 |true=>
  rw[if_pos rfl];refine aL (aF.of hv) (cT rfl) ⟨c,rfl,aL (aF.of hv) (bQ rfl) (aL (aF.of hv) (cT rfl) ⟨by decide,λt nt=>?_⟩)⟩;have:sized c=(sized r&&sized c):=by rw[hb];rfl
  rw[this];exact eO q1 q2 (aA.laid nt) ao
 |false=>
  rw[if_neg (by decide)];refine aL (aF.of hv) (bQ rfl) (aL (aF.of hv) (cT rfl) ⟨by decide,λt nt=>?_⟩);have:false=(sized r&&sized c):=by rw[hb];rfl
  rw[this];exact eO q1 q2 (aA.laid nt) ao
theorem Bq (G:aU K mg a):bI P w K mg aq "size_of_ones" a.rP 2 ["arithmetic","given","sizes"] (gb a (λg ss=>∃n,g=[n]) λmi g ss=>fK (sized (g.getD 0 0)) (g.getD 0 0,g.getD 0 0)):=G.Ou.bx λfd F=>by
 refine F.ok Oj dw (λy A y s H vs Q E hr h=>?_);obtain⟨p,gv,gs,k,m,A,given,ts,ss,rfl,hA,O,hv,hg,hp,⟨n,rfl⟩,q1,q2⟩:=h;have hu2:=hr.units;refine⟨_,(ak (aG (aD (fG G) (bB (aD (jr G) (bG (aJ aH aR au))) (jE (bB (aJ aH aR au) (aJ aH aR au))))))),?_⟩;ac_rfl;refine aL (aF.of hv) (bQ rfl) ⟨n,rfl,aL (aF.of hv) (bQ rfl) (aL (aF.of hv) (bQ rfl) ⟨by decide,λt nt=>?_⟩)⟩;exact eO (z:=(n,n)) q1 q2 (aA.laid nt) ao
theorem xP (G:aU K mg a):bI P w K mg aq "size_of_single" a.oJ 1 ["arithmetic","given","sizes"] (gb a (λg ss=>∃v:Nat,g=[v]) λmi g ss=>some (1,1)):=G.J3.bx λfd F=>by
 refine F.ok JQ dw (λz A z s H vs Q E hr h=>?_);obtain⟨p,gv,gs,k,m,A,given,ts,ss,rfl,hA,O,hv,hg,hp,⟨n,rfl⟩,q1,q2⟩:=h;have hu2:=hr.units;refine⟨_,(ak (aG (jE (bB au au)))),?_⟩;ac_rfl;exact⟨by decide,λt nt=>q2 (1,1) t _ rfl (aA.laid nt) ao⟩
theorem xQ (G:aU K mg a):bI P w K mg aq "size_of_turned" a.oK 1 ["arithmetic","given","sizes"] (gb a (λg ss=>∃z,ss=[z]) λmi g ss=>some ((Z0 ss).2,(Z0 ss).1)):=G.J4.bx λfd F=>by
 refine F.ok JR dw (λy A y s H vs Q E hr h=>?_);obtain⟨p,gv,gs,k,m,A,given,ts,ss,rfl,hA,O,hv,hg,hp,⟨z,rfl⟩,q1,q2⟩:=h;cases hp with
 |cons hz hp2=>
 cases hp2;rename_i t0;have hu2:=hr.units;refine⟨_,(ak (aG (jE (bB (aJ bT (aJ aH bf au) au) (aJ bT (aJ aH bf au) au))))),?_⟩;ac_rfl;refine aL (aF.of hg) (bQ rfl) (bw (bR.of hz) (cT rfl) (aL (aF.of hg) (bQ rfl) (bw (bR.of hz) (bQ rfl) ⟨by decide,λt nt=>?_⟩)));exact q2 (z.2,z.1) t _ rfl (aA.laid nt) ao
theorem yQ (G:aU K mg a):bI P w K mg aq "size_of_trace" a.qg 2 ["arithmetic","given","sizes"] (gb a (λg ss=>∃z,ss=[z]) λmi g ss=>fK ((Z0 ss).1 == (Z0 ss).2) (1,1)):=G.Ma.bx λfd F=>by
 refine F.ok Lk dw (λy A y s H vs Q E hr h=>?_);obtain⟨p,gv,gs,k,m,A,given,ts,ss,rfl,hA,O,hv,hg,hp,⟨z,rfl⟩,q1,q2⟩:=h;cases hp with
 |cons hz hp2=>
 cases hp2;rename_i t0;have hu2:=hr.units;refine⟨_,(ak (aG (aD (fG G) (bB (aD (sE G) (bG (aJ aH bf au))) (jE (bB au au)))))),?_⟩;ac_rfl;refine aL (aF.of hg) (bQ rfl) ⟨t0,z,rfl,hz,by decide,λt nt=>?_⟩;exact eO (z:=(1,1)) q1 q2 (aA.laid nt) ao
theorem yR (G:aU K mg a):bI P w K mg aq "size_of_power" a.qj 2 ["arithmetic","given","sizes"] (gb a (λg ss=>∃e z,g=[e]/\ss=[z]) λmi g ss=>fK ((Z0 ss).1 == (Z0 ss).2&&decide (g.getD 0 0<=64)) (Z0 ss)):=G.Mf.bx λfd F=>by
 refine F.ok Lp dw (λy A y s H vs Q E hr h=>?_);obtain⟨p,gv,gs,k,m,A,given,ts,ss,rfl,hA,O,hv,hg,hp,⟨e,z,rfl,rfl⟩,q1,q2⟩:=h;cases hp with
 |cons hz hp2=>
 cases hp2;rename_i t0;have hu2:=hr.units;refine⟨_,(ak (aG (aD (fG G) (bB (jj (aD (sE G) (bG (aJ aH bf au))) (eF (fU (pc_le (aJ aH aR au) (bL rfl G.T3))))) (aJ aH bf au))))),?_⟩;ac_rfl;have q1:fK (z.1 == z.2&&decide (e<=64)) z=none->_:=q1;have q2:∀z' t Z,fK (z.1 == z.2&&decide (e<=64)) z=some z'->_:=q2;refine aL (aF.of hg) (bQ rfl) ⟨t0,z,rfl,hz,_,rfl,?_⟩;cases hb:(z.1 == z.2) with
 |true=>
  rw[if_pos rfl];rw[hb] at q1 q2;refine aL (aF.of hv) (bQ rfl) ⟨_,_,rfl,rfl,aL (aF.of hg) (bQ rfl) ?_⟩;have:decide ((e:Int)<=64)=(true&&decide (e<=64)):=by rw[Bool.true_and];exact decide_eq_decide.mpr (by lia)
  show DG [.bl (decide ((e:Int)<=64)),_] _ _ _;rw[this];exact eO q1 q2 (aA.refl _) hz
 |false=>
  rw[if_neg (by decide)];rw[hb] at q1 q2;exact aL (aF.of hg) (bQ rfl) (eO (b:=false) q1 q2 (aA.refl _) hz)
theorem vd (G:aU K mg a):bI P w K mg aq "size_of_closure" a.mQ 2 ["arithmetic","given","sizes"] (gb a (λg ss=>∃z,ss=[z]) λmi g ss=>fK ((Z0 ss).1 == (Z0 ss).2) (Z0 ss)):=G.HJ.bx λfd F=>by
 refine F.ok GJ dw (λy A y s H vs Q E hr h=>?_);obtain⟨p,gv,gs,k,m,A,given,ts,ss,rfl,hA,O,hv,hg,hp,⟨z,rfl⟩,q1,q2⟩:=h;cases hp with
 |cons hz hp2=>
 cases hp2;rename_i t0;have hu2:=hr.units;refine⟨_,(ak (aG (aD (fG G) (bB (aD (sE G) (bG (aJ aH bf au))) (aJ aH bf au))))),?_⟩;ac_rfl;exact aL (aF.of hg) (bQ rfl) ⟨t0,z,rfl,hz,aL (aF.of hg) (bQ rfl) (eO (z:=z) q1 q2 (aA.refl _) hz)⟩
theorem pI (G:aU K mg a):bI P w K mg aq "size_of_determinant" a.jM 2 ["arithmetic","given","sizes"] (gb a (λg ss=>∃z,ss=[z]) λmi g ss=>fK ((Z0 ss).1 == (Z0 ss).2&&(decide ((Z0 ss).1<=6)&&mi)) (1,1)):=G.zL.bx λfd F=>by
 refine F.ok m9 dw (λy A y s H vs Q E hr h=>?_);obtain⟨p,gv,gs,k,m,A,given,ts,ss,rfl,hA,O,hv,hg,hp,⟨z,rfl⟩,q1,q2⟩:=h;cases hp with
 |cons hz hp2=>
 cases hp2;rename_i t0;have hu2:=hr.units;refine⟨_,(aC (aX 3 m9.nd (jj (aD (sE G) (bG (aJ aH bf au))) (jj (fU (pc_le (aJ bT (aJ aH bf au) au) (bL rfl G.Fe))) (eF (aD (zO G) (bG aK))))))
   (ak (aG (aD (fG G) (bB bF (jE (bB au au))))))),?_⟩
 ac_rfl;have q1:fK (z.1 == z.2&&(decide (z.1<=6)&&A.minus.isSome)) (1,1)=none->_:=q1;have q2:∀z' t Z,fK (z.1 == z.2&&(decide (z.1<=6)&&A.minus.isSome)) (1,1)=some z'->_:=q2;refine aL (aF.of hg) (bQ rfl) ⟨t0,z,rfl,hz,_,rfl,?_⟩;cases hb:(z.1 == z.2) with
 |true=>
  rw[if_pos rfl];rw[hb] at q1 q2;refine aL (aF.of hg) (bQ rfl) (bw (bR.of hz) (bQ rfl) ⟨_,_,rfl,rfl,?_⟩);ac_rfl;by_cases h6:z.1<=6
  ·rw[if_pos (show(z.1:Int)<=6 by lia)];rw[decide_eq_true h6] at q1 q2;refine⟨p,k,m,A,rfl,hA,O,by decide,λt nt=>?_⟩;exact eO (b:=A.minus.isSome) (z:=(1,1)) (by simpa using q1) (by simpa using q2) (aA.laid nt) ao
  ·rw[if_neg (show¬(z.1:Int)<=6 by lia)];rw[decide_eq_false h6] at q1 q2;exact⟨by decide,λt nt=>eO (b:=false) (z:=(1,1)) q1 q2 (aA.laid nt) ao⟩
 |false=>
  rw[if_neg (by decide)];rw[hb] at q1 q2;exact⟨by decide,λt nt=>eO (b:=false) (z:=(1,1)) q1 q2 (aA.laid nt) ao⟩
theorem iz (G:aU K mg a):bI P w K mg aq "size_entry_by_entry" a.g8 2 ["arithmetic","given","sizes"] (gb a (λg ss=>∃z y,ss=[z,y]) λmi g ss=>fK ((Z0 ss).1 == (Z1 ss).1&&(Z0 ss).2 == (Z1 ss).2) (Z0 ss)):=G.zM.bx λfd F=>by
 refine F.ok zG dw (λx A x s H vs Q E hr h=>?_);obtain⟨p,gv,gs,k,m,A,given,ts,ss,rfl,hA,O,hv,hg,hp,⟨z,y,rfl⟩,q1,q2⟩:=h;cases hp with
 |cons hz hp2=>
 cases hp2 with
 |cons hy hp3=>
 cases hp3;rename_i t0 t1;have hu2:=hr.units;refine⟨_,(ak (aG (aD (fG G) (bB (PB (Vr hu2) (aJ aH bf au) (aJ aH bf au) (MK _)) (aJ aH bf au))))),?_⟩;ac_rfl;exact aL (aF.of hg) (bQ rfl) (aL (aF.of hg) (cT rfl) (eq_sz hz hy (aL (aF.of hg) (bQ rfl) (eO (z:=z) q1 q2 (aA.refl _) hz))))
theorem uh (G:aU K mg a):bI P w K mg aq "size_of_multiple" a.lK 2 ["arithmetic","given","sizes"] (gb a (λg ss=>∃z y,ss=[z,y]) λmi g ss=>fK ((Z0 ss).1 == 1&&(Z0 ss).2 == 1) (Z1 ss)):=G.Fo.bx λfd F=>by
 refine F.ok Ez dw (λx A x s H vs Q E hr h=>?_);obtain⟨p,gv,gs,k,m,A,given,ts,ss,rfl,hA,O,hv,hg,hp,⟨z,y,rfl⟩,q1,q2⟩:=h;cases hp with
 |cons hz hp2=>
 cases hp2 with
 |cons hy hp3=>
 cases hp3;rename_i t0 t1;have hu2:=hr.units;refine⟨_,(ak (aG (aD (fG G) (bB (PB (Vr hu2) (aJ aH bf au) (jE (bB au au)) (MK _)) (aJ aH bf au))))),?_⟩;ac_rfl;refine aL (aF.of hg) (bQ rfl) ⟨by decide,λt nt=>?_⟩;have s1:aA H (aN H t (.tup [.int 1,.int 1])):=aA.laid nt;have ht:iJ (aN H t (.tup [.int 1,.int 1])) t (1,1):=ao;generalize aN H t (.tup [.int 1,.int 1])=H1 at s1 ht⊢;exact eq_sz (s1 _ _ hz) ht (aL (aF.of (s1 _ _ hg)) (cT rfl) (eO (z:=y) q1 q2 s1 (s1 _ _ hy)))
theorem qH (G:aU K mg a):bI P w K mg aq "size_of_difference" a.jX 2 ["arithmetic","given","sizes"] (gb a (λg ss=>∃z y,ss=[z,y]) λmi g ss=>fK (((Z0 ss).1 == (Z1 ss).1&&(Z0 ss).2 == (Z1 ss).2)&&mi) (Z0 ss)):=G.Bg.bx λfd F=>by
 refine F.ok Ak dw (λx A x s H vs Q E hr h=>?_);obtain⟨p,gv,gs,k,m,A,given,ts,ss,rfl,hA,O,hv,hg,hp,⟨z,y,rfl⟩,q1,q2⟩:=h;cases hp with
 |cons hz hp2=>
 cases hp2 with
 |cons hy hp3=>
 cases hp3;rename_i t0 t1;have hu2:=hr.units;refine⟨_,(ak (aG (aD (fG G) (bB (jj (PB (Vr hu2) (aJ aH bf au) (aJ aH bf au) (MK _)) (eF (aD (zO G) (bG aK)))) (aJ aH bf au))))),?_⟩;ac_rfl;have q1:fK ((z.1 == y.1&&z.2 == y.2)&&A.minus.isSome) z=none->_:=q1;have q2:∀z' t Z,fK ((z.1 == y.1&&z.2 == y.2)&&A.minus.isSome) z=some z'->_:=q2;refine aL (aF.of hg) (bQ rfl) (aL (aF.of hg) (cT rfl) (eq_sz hz hy ⟨_,rfl,?_⟩));cases hb:(z.1 == y.1&&z.2 == y.2) with
 |true=>
  rw[if_pos rfl];rw[hb] at q1 q2;exact⟨p,k,m,A,rfl,hA,O,aL (aF.of hg) (bQ rfl) (eO (b:=A.minus.isSome) (z:=z) (by simpa using q1) (by simpa using q2) (aA.refl _) hz)⟩
 |false=>
  rw[if_neg (by decide)];rw[hb] at q1 q2;exact aL (aF.of hg) (bQ rfl) (eO (b:=false) (z:=z) q1 q2 (aA.refl _) hz)
theorem vf (G:aU K mg a):bI P w K mg aq "size_of_product" a.mR 2 ["arithmetic","given","sizes"] (gb a (λg ss=>∃z y,ss=[z,y]) λmi g ss=>fK ((Z0 ss).2 == (Z1 ss).1) ((Z0 ss).1,(Z1 ss).2)):=G.HN.bx λfd F=>by
 refine F.ok GK dw (λx A x s H vs Q E hr h=>?_);obtain⟨p,gv,gs,k,m,A,given,ts,ss,rfl,hA,O,hv,hg,hp,⟨z,y,rfl⟩,q1,q2⟩:=h;cases hp with
 |cons hz hp2=>
 cases hp2 with
 |cons hy hp3=>
 cases hp3;rename_i t0 t1;have hu2:=hr.units;refine⟨_,(ak (aG (aD (fG G) (bB (fU (dD (aJ bT (aJ aH bf au) au) (aJ bT (aJ aH bf au) au))) (jE (bB (aJ bT (aJ aH bf au) au) (aJ bT (aJ aH bf au) au))))))),?_⟩;ac_rfl;refine aL (aF.of hg) (bQ rfl) (bw (bR.of hz) (cT rfl) (aL (aF.of hg) (cT rfl) (bw (bR.of hy) (bQ rfl) ⟨_,_,rfl,rfl,aL (aF.of hg) (bQ rfl) (bw (bR.of hz) (bQ rfl) (aL (aF.of hg) (cT rfl) (bw (bR.of hy) (cT rfl) ⟨by decide,λt nt=>?_⟩)))⟩)));have e:decide ((z.2:Int)=(y.1:Int))=(z.2 == y.1):=by rw[Bool.eq_iff_iff];simp;lia
 show DG [.bl (decide ((z.2:Int)=(y.1:Int))),_] _ _ _;rw[e];exact eO (z:=(z.1,y.2)) q1 q2 (aA.laid nt) ao
theorem Ep (G:aU K mg a):bI P w K mg aq "size_of_cut" a.uI 2 ["arithmetic","given","sizes"] (gb a (λg ss=>∃i r j c z,g=[i,r,j,c]/\ss=[z]) λmi g ss=>fK ((decide (1<=g.getD 1 0)&&decide (g.getD 0 0+g.getD 1 0<=(Z0 ss).1))&&(decide (1<=g.getD 3 0)&&decide (g.getD 2 0+g.getD 3 0<=(Z0 ss).2))) (g.getD 1 0,g.getD 3 0)):=G.QJ.bx λfd F=>by
 refine F.ok rK dw (λy A y s H vs Q E hr h=>?_);obtain⟨p,gv,gs,k,m,A,given,ts,ss,rfl,hA,O,hv,hg,hp,⟨i,r,j,c,z,rfl,rfl⟩,q1,q2⟩:=h;cases hp with
 |cons hz hp2=>
 cases hp2;rename_i t0;have hu2:=hr.units;refine⟨_,(aC (aX 3 rK.nd (aD (Iu G) (bC (aJ aH aR au) (bB (aJ aH aR au) (aJ bT (aJ aH bf au) au)))))
   (aC (aX 4 rK.nd (aD (Iu G) (bC (aJ aH aR au) (bB (aJ aH aR au) (aJ bT (aJ aH bf au) au))))) (ak (aG (aD (fG G) (bB (jj bF (eF cM)) (jE (bB (aJ aH aR au) (aJ aH aR au))))))))),?_⟩
 ac_rfl;have a2:∀{H:Hp},H gv=some (.aB (vN [i,r,j,c]))->∀{Q:VK},Q (.int j) H->Vo K (.ref gv) (.int 2) H Q:=λh y q=>aL (aF.of h) (dU (j:=2) rfl) q;have a3:∀{H:Hp},H gv=some (.aB (vN [i,r,j,c]))->∀{Q:VK},Q (.int c) H->Vo K (.ref gv) (.int 3) H Q:=λh y q=>aL (aF.of h) (dU (j:=3) rfl) q;have q1:fK ((decide (1<=r)&&decide (i+r<=z.1))&&(decide (1<=c)&&decide (j+c<=z.2))) (r,c)=none->_:=q1;have q2:∀z' t Z,fK ((decide (1<=r)&&decide (i+r<=z.1))&&(decide (1<=c)&&decide (j+c<=z.2))) (r,c)=some z'->_:=q2;refine aL (aF.of hv) (bQ rfl) (aL (aF.of hv) (cT rfl) (aL (aF.of hg) (bQ rfl) (bw (bR.of hz) (bQ rfl) ⟨i,r,z.1,rfl,?_⟩)));ac_rfl;refine a2 hv (a3 hv (aL (aF.of hg) (bQ rfl) (bw (bR.of hz) (cT rfl) ⟨j,c,z.2,rfl,?_⟩)));ac_rfl;generalize (decide (1<=r)&&decide (i+r<=z.1))=b1 at q1 q2⊢;generalize (decide (1<=c)&&decide (j+c<=z.2))=b2 at q1 q2⊢;cases b1 with
 |true=>
  rw[if_pos rfl];exact aL (aF.of hv) (cT rfl) (a3 hv ⟨by decide,λt nt=>eO (b:=b2) (z:=(r,c)) (by simpa using q1) (by simpa using q2) (aA.laid nt) ao⟩)
 |false=>
  rw[if_neg (by decide)];exact aL (aF.of hv) (cT rfl) (a3 hv ⟨by decide,λt nt=>eO (b:=false) (z:=(r,c)) q1 q2 (aA.laid nt) ao⟩)
theorem gU {x y:Nat}(h:(x == y)=true):x=y:=by simpa using h
theorem ne_beq {x y:Nat}(h:(x == y)=false):x≠y:=by simpa using h
theorem xR (G:aU K mg a):bI P w K mg aq "size_of_beside" a.oN 2 ["arithmetic","given","sizes"] (gb a (λg ss=>∃z y,ss=[z,y]) λmi g ss=>fK ((Z0 ss).1 == (Z1 ss).1&&sized ((Z0 ss).2+(Z1 ss).2)) ((Z0 ss).1,(Z0 ss).2+(Z1 ss).2)):=G.J6.bx λfd F=>by
 refine F.ok uV dw (λx A x s H vs Q E hr h=>?_);obtain⟨p,gv,gs,k,m,A,given,ts,ss,rfl,hA,O,hv,hg,hp,⟨z,y,rfl⟩,q1,q2⟩:=h;cases hp with
 |cons hz hp2=>
 cases hp2 with
 |cons hy hp3=>
 cases hp3;rename_i t0 t1;have hu2:=hr.units;refine⟨_,(aC (aX 3 uV.nd (bD jD (aJ bT (aJ aH bf au) au) (aJ bT (aJ aH bf au) au)))
   (ak (aG (aD (fG G) (bB (jj (fU (dD (aJ bT (aJ aH bf au) au) (aJ bT (aJ aH bf au) au))) (eF (aD (jr G) (bG bF)))) (jE (bB (aJ bT (aJ aH bf au) au) bF))))))),?_⟩
 ac_rfl;have q1:fK (z.1 == y.1&&sized (z.2+y.2)) (z.1,z.2+y.2)=none->_:=q1;have q2:∀z' t Z,fK (z.1 == y.1&&sized (z.2+y.2)) (z.1,z.2+y.2)=some z'->_:=q2;have ew:((z.2:Int)+(y.2:Int))=((z.2+y.2:Nat):Int):=by simp
 refine aL (aF.of hg) (bQ rfl) (bw (bR.of hz) (cT rfl) (aL (aF.of hg) (cT rfl) (bw (bR.of hy) (cT rfl) ⟨_,_,rfl,rfl,?_⟩)))
 try dsimp only
 rw[ew];ac_rfl;refine aL (aF.of hg) (bQ rfl) (bw (bR.of hz) (bQ rfl) (aL (aF.of hg) (cT rfl) (bw (bR.of hy) (bQ rfl) ⟨_,_,rfl,rfl,?_⟩)));ac_rfl;cases hb:(z.1 == y.1) with
 |true=>
  rw[hb] at q1 q2;rw[if_pos (by have:=gU hb;lia)];refine⟨z.2+y.2,rfl,aL (aF.of hg) (bQ rfl) (bw (bR.of hz) (bQ rfl) ⟨by decide,λt nt=>?_⟩)⟩;exact eO (b:=sized (z.2+y.2)) (z:=(z.1,z.2+y.2)) (by simpa using q1) (by simpa using q2) (aA.laid nt) ao
 |false=>
  rw[hb] at q1 q2;rw[if_neg (by have:=ne_beq hb;lia)];refine aL (aF.of hg) (bQ rfl) (bw (bR.of hz) (bQ rfl) ⟨by decide,λt nt=>?_⟩);exact eO (b:=false) (z:=(z.1,z.2+y.2)) q1 q2 (aA.laid nt) ao
theorem yS (G:aU K mg a):bI P w K mg aq "size_of_below" a.ql 2 ["arithmetic","given","sizes"] (gb a (λg ss=>∃z y,ss=[z,y]) λmi g ss=>fK ((Z0 ss).2 == (Z1 ss).2&&sized ((Z0 ss).1+(Z1 ss).1)) ((Z0 ss).1+(Z1 ss).1,(Z0 ss).2)):=G.Mg.bx λfd F=>by
 refine F.ok wI dw (λx A x s H vs Q E hr h=>?_);obtain⟨p,gv,gs,k,m,A,given,ts,ss,rfl,hA,O,hv,hg,hp,⟨z,y,rfl⟩,q1,q2⟩:=h;cases hp with
 |cons hz hp2=>
 cases hp2 with
 |cons hy hp3=>
 cases hp3;rename_i t0 t1;have hu2:=hr.units;refine⟨_,(aC (aX 3 wI.nd (bD jD (aJ bT (aJ aH bf au) au) (aJ bT (aJ aH bf au) au)))
   (ak (aG (aD (fG G) (bB (jj (fU (dD (aJ bT (aJ aH bf au) au) (aJ bT (aJ aH bf au) au))) (eF (aD (jr G) (bG bF)))) (jE (bB bF (aJ bT (aJ aH bf au) au)))))))),?_⟩
 ac_rfl;have q1:fK (z.2 == y.2&&sized (z.1+y.1)) (z.1+y.1,z.2)=none->_:=q1;have q2:∀z' t Z,fK (z.2 == y.2&&sized (z.1+y.1)) (z.1+y.1,z.2)=some z'->_:=q2;have ew:((z.1:Int)+(y.1:Int))=((z.1+y.1:Nat):Int):=by simp
 refine aL (aF.of hg) (bQ rfl) (bw (bR.of hz) (bQ rfl) (aL (aF.of hg) (cT rfl) (bw (bR.of hy) (bQ rfl) ⟨_,_,rfl,rfl,?_⟩)))
 try dsimp only
 rw[ew];ac_rfl;refine aL (aF.of hg) (bQ rfl) (bw (bR.of hz) (cT rfl) (aL (aF.of hg) (cT rfl) (bw (bR.of hy) (cT rfl) ⟨_,_,rfl,rfl,?_⟩)));ac_rfl;cases hb:(z.2 == y.2) with
 |true=>
  rw[hb] at q1 q2;rw[if_pos (by have:=gU hb;lia)];refine⟨z.1+y.1,rfl,aL (aF.of hg) (bQ rfl) (bw (bR.of hz) (cT rfl) ⟨by decide,λt nt=>?_⟩)⟩;exact eO (b:=sized (z.1+y.1)) (z:=(z.1+y.1,z.2)) (by simpa using q1) (by simpa using q2) (aA.laid nt) ao
 |false=>
  rw[hb] at q1 q2;rw[if_neg (by have:=ne_beq hb;lia)];refine aL (aF.of hg) (bQ rfl) (bw (bR.of hz) (cT rfl) ⟨by decide,λt nt=>?_⟩);exact eO (b:=false) (z:=(z.1+y.1,z.2)) q1 q2 (aA.laid nt) ao
theorem xT (G:aU K mg a):bI P w K mg aq "size_of_blocks" a.oM 2 ["arithmetic","given","sizes"] (gb a (λg ss=>∃z y,ss=[z,y]/\z.1<=16/\z.2<=16) λmi g ss=>fK (sized ((Z0 ss).1*(Z1 ss).1)&&sized ((Z0 ss).2*(Z1 ss).2)) ((Z0 ss).1*(Z1 ss).1,(Z0 ss).2*(Z1 ss).2)):=G.J5.bx λfd F=>by
 refine F.ok uU dw (λx A x s H vs Q E hr h=>?_);obtain⟨p,gv,gs,k,m,A,given,ts,ss,rfl,hA,O,hv,hg,hp,⟨z,y,rfl,z16,z16c⟩,q1,q2⟩:=h;cases hp with
 |cons hz hp2=>
 cases hp2 with
 |cons hy hp3=>
 cases hp3;rename_i t0 t1;have hu2:=hr.units;refine⟨_,(aC (aX 3 uU.nd (jE (bB (bD mZ (aJ bT (aJ aH bf au) au) (aJ bT (aJ aH bf au) au)) (bD mZ (aJ bT (aJ aH bf au) au) (aJ bT (aJ aH bf au) au)))))
   (ak (aG (aD (fG G) (bB (jj (aD (jr G) (bG (aJ bT bF au))) (eF (aD (jr G) (bG (aJ bT bF au))))) bF))))),?_⟩
 ac_rfl;have q1:fK (sized (z.1*y.1)&&sized (z.2*y.2)) (z.1*y.1,z.2*y.2)=none->_:=q1;have q2:∀z' t Z,fK (sized (z.1*y.1)&&sized (z.2*y.2)) (z.1*y.1,z.2*y.2)=some z'->_:=q2;have e1:((z.1:Int)*(y.1:Int))=((z.1*y.1:Nat):Int):=by simp
 have e2:((z.2:Int)*(y.2:Int))=((z.2*y.2:Nat):Int):=by simp
 refine aL (aF.of hg) (bQ rfl) (bw (bR.of hz) (bQ rfl) (aL (aF.of hg) (cT rfl) (bw (bR.of hy) (bQ rfl) ⟨_,_,rfl,rfl,.inl ⟨by lia,by lia⟩,aL (aF.of hg) (bQ rfl) (bw (bR.of hz) (cT rfl) (aL (aF.of hg) (cT rfl) (bw (bR.of hy) (cT rfl) ⟨_,_,rfl,rfl,.inl ⟨by lia,by lia⟩,by decide,λt nt=>?_⟩)))⟩)))
 try dsimp only
 rw[e1,e2];have s1:aA H (aN H t (.tup [.int (z.1*y.1:Nat),.int (z.2*y.2:Nat)])):=aA.laid nt;have ht:iJ (aN H t (.tup [.int (z.1*y.1:Nat),.int (z.2*y.2:Nat)])) t (z.1*y.1,z.2*y.2):=ao;generalize aN H t (.tup [.int (z.1*y.1:Nat),.int (z.2*y.2:Nat)])=H1 at s1 ht⊢;ac_rfl;refine bw (bR.of ht) (bQ rfl) ⟨z.1*y.1,rfl,_,rfl,?_⟩;cases hb:sized (z.1*y.1) with
 |true=>
  rw[hb] at q1 q2;rw[if_pos rfl];exact bw (bR.of ht) (cT rfl) ⟨z.2*y.2,rfl,eO (b:=sized (z.2*y.2)) (z:=(z.1*y.1,z.2*y.2)) (by simpa using q1) (by simpa using q2) s1 ht⟩
 |false=>
  rw[hb] at q1 q2;rw[if_neg (by decide)];exact eO (b:=false) (z:=(z.1*y.1,z.2*y.2)) q1 q2 s1 ht
structure Ent (k:Nat)(A:Arith)(r c:Nat)(zs:List Int)(t:Option Mat):Prop where
 d:∀z∈zs,Ar.Dom k z
 len:zs.length=r*c
 w:qG A r c zs=t
inductive iK (a:Ad)(C:Nat->Arith->List Nat->List Mat->Prop)(sz:List Nat->List Mat->Nat×Nat)(tg:Arith->List Nat->List Mat->Option Mat)(vs:List V)(H:Hp)(Q:VK)(E:XK):Prop where
 |mk (p gv gs:Addr) (k m:Nat) (A:Arith) (given:List Nat) (qs:List Addr) (Ms:List Mat) (cI:vs=[.ref p,.ref gv,.ref gs]) (cJ:dO a H p k m) (cQ:arith k m=some A) (dH:m<18446744073709551616) (fC:H gv=some (.aB (vN given))) (gF:H gs=some (.aB (qs.map V.ref))) (iQ:Paired (MG a A H) qs Ms) (kE:C k A given Ms) (ud:(tg A given Ms=none->∀Z,aA H Z->Q .non Z)) (Bm:∀zs D Z,Ent k A (sz given Ms).1 (sz given Ms).2 zs (tg A given Ms)->aA H Z->Z D=some (.aB (vI zs))->Q (.ref D) Z)
theorem dI {C sz tg}:∀vs H Q E,iK a C sz tg vs H Q E->vs.length=3:=by
 rintro vs H Q E ⟨p,gv,gs,k,m,A,given,qs,Ms,rfl,_⟩;rfl
theorem Ent.made {k m:Nat}{A:Arith}(O:arith k m=some A){r c:Nat}{f:Nat->Nat->Int}(hd:∀i j,i<r->j<c->Ar.Dom k (f i j)):Ent k A r c (tab r c f) (GridTalk.made A 0 r c f).toOption:=
 ⟨Ai hd,iR r c f,SM A r c f⟩
theorem Ent.madeW {k m:Nat}{A:Arith}(O:arith k m=some A){r c:Nat}{f g:Nat->Nat->Int}(hd:∀i j,i<r->j<c->Ar.Dom k (g i j))(hw:∀i j,i<r->j<c->A.word (g i j)=A.word (f i j)):Ent k A r c (tab r c g) (GridTalk.made A 0 r c f).toOption:=by
 refine⟨Ai hd,iR r c g,?_⟩;rw[<-SM A r c f];refine setl_word ?_;have e:((range (r*c)).map λk=>f (k/c) (k%c))=tab r c f:=rfl;rw[e,rE,rE];exact pD hw
theorem Ent.by_ {k m:Nat}{A:Arith}(O:arith k m=some A){r c:Nat}{f:Nat->Nat->Nat}(hf:∀i j,i<r->j<c->f i j<18446744073709551616/\A.number (f i j)=true):Ent k A r c (tab r c λi j=>A.mean (f i j)) (some (Mat.by_ r c f)):=by
 refine⟨Ai λi j hi hj=>Ar.eN O _ (hf i j hi hj).1,iR _ _ _,?_⟩;rw[cZ.Zr];have e:(tab r c λi j=>A.mean (f i j))=(tab r c f).map A.mean:=(rE r c f A.mean).symm;rw[e];exact yL O (Ai hf)
theorem yU:(100000:Nat)<sizeLine:=by decide
abbrev M0 (Ms:List Mat):Mat:=Ms.getD 0 GridTalk.noMat
abbrev M1 (Ms:List Mat):Mat:=Ms.getD 1 GridTalk.noMat
theorem d_nones (G:aU K mg a):bI P w K mg aq "nones" a.f_nones 2 ["arithmetic","given","grids"]
  (iK a (λz z g Ms=>∃r c,g=[r,c]/\Ms=[]/\r<=16/\c<=16) (λg z=>(g.getD 0 0,g.getD 1 0)) λA g z=>(GridTalk.made A 0 (g.getD 0 0) (g.getD 1 0) λz z=>A.none_).toOption):=G.fn_nones.bx λfd F=>by
 refine F.ok sc_nones dI (λz A z s H vs Q E hr h=>?_);obtain⟨p,gv,gs,k,m,A,given,qs,Ms,rfl,hA,O,hm,hv,hg,hM,⟨r,c,rfl,rfl,r16,c16⟩,q1,q2⟩:=h;refine⟨_,(ak (aG (bD Nb (bK (bG (aD (Sy G) (bG aK)))) (bD mZ (aJ aH aR au) (aJ aH aR au))))),?_⟩;ac_rfl;refine⟨p,k,m,A,rfl,hA,O,by decide,λl nl=>?_⟩;have s1:aA H (aN H l (.aB [.int A.none_])):=aA.laid nl;have Ij:r*c<=256:=by have:=mul_le_mul r16 c16;lia
 refine aL (aF.of (s1 _ _ hv)) (bQ rfl) (aL (aF.of (s1 _ _ hv)) (cT rfl) ⟨_,_,rfl,rfl,.inl ⟨by lia,by lia⟩,l,_,[.int A.none_],rfl,rfl,ao,?_,?_,?_,λD nD=>?_⟩)
 ·have:(0:Int)<=(r:Int)*c:=Int.mul_nonneg (by lia) (by lia);lia
 ·have:(r:Int)*c=((r*c:Nat):Int):=by simp
  rw[this];lia
 ·have:((r:Int)*c).toNat=r*c:=by rw[<-natCast_mul,toNat_natCast]
  rw[this];exact le_of_lt (lt_of_le_of_lt (by simp;lia) yU)
 ·have e:((r:Int)*c).toNat=r*c:=by rw[<-natCast_mul,toNat_natCast]
  rw[e];have e2:(replicate (r*c) [V.int A.none_]).flatten=vI (tab r c λz z=>A.none_):=by
   rw[Bo, <-rep_tab];generalize r*c=n
   induction n with
   |zero=>rfl
   |succ n ih=>rw[replicate_succ,flatten_cons,ih,replicate_succ];rfl
  rw[e2];exact q2 _ D _ (Ent.made O λi j z z=>Ar.oF O) (s1.trans (aA.laid nD)) ao
theorem d_trace (G:aU K mg a):bI P w K mg aq "trace" a.f_trace 3 ["arithmetic","given","grids"]
  (iK a (λy y g Ms=>∃x,Ms=[x]/\x.rows=x.cols) (λy y=>(1,1)) λA y Ms=>(GridTalk.oneValue A 0 .trace (M0 Ms)).toOption):=G.fn_trace.bx λfd F=>by
 refine F.ok sc_trace dI (λy A y s H vs Q E hr h=>?_);obtain⟨p,gv,gs,k,m,A,given,qs,Ms,rfl,hA,O,hm,hv,hg,hM,⟨x,rfl,mJ⟩,q1,q2⟩:=h;cases hM with
 |cons hx eU=>
 cases eU;rename_i qx;obtain⟨e,hG,he⟩:=hx.ex;rw[ju hx.wf,Bo] at he;refine⟨_,(ak (aG (bK (bG (aD (xG G) (bB aK (aD (Uq G) (bG (aJ aH bf au))))))))),?_⟩;ac_rfl;refine aL (aF.of hg) (bQ rfl) ⟨qx,e,x.rows,λi j=>V.int (x.mean A i j),rfl,by rw[mJ] at hG⊢;exact hG,by rw[mJ] at he⊢;exact he,hx.wf.r2,λl H1 s1 nl hl=>?_⟩;have hl':H1 l=some (.aB (vI ((range x.rows).map λi=>x.mean A i i))):=by rw[hl];show _=some (HO.aB (((range x.rows).map λi=>x.mean A i i).map V.int));rw[map_map];rfl
 have hd:∀z∈(range x.rows).map λi=>x.mean A i i,Ar.Dom k z:=by
  intro z hz;obtain⟨i,hi,rfl⟩:=mem_map.mp hz;have hi:=List.mem_range.mp hi;exact hx.wf.dom O hi (by lia)
 refine⟨p,l,k,m,A,_,rfl,hA.same s1,O,aF.of hl',hd,λz y hz=>⟨by decide,λD nD=>?_⟩⟩;refine q2 [z] D _ ?_ (s1.trans (aA.laid nD)) ao;have:=Ent.madeW O (r:=1) (c:=1) (g:=λy y=>z) (f:=λy y=>A.total ((range x.rows).map λi=>x.mean A i i)) (λy y y y=>hz.d) (λy y y y=>hz.w);exact this
theorem d_turned (G:aU K mg a):bI P w K mg aq "turned" a.Ly 3 ["arithmetic","given","grids"]
  (iK a (λy y g Ms=>∃x,Ms=[x]) (λy Ms=>((M0 Ms).cols,(M0 Ms).rows)) λA y Ms=>(GridTalk.oneValue A 0 .turn (M0 Ms)).toOption):=G.fn_turned.bx λfd F=>by
 refine F.ok GD dI (λy A y s H vs Q E hr h=>?_);obtain⟨p,gv,gs,k,m,A,given,qs,Ms,rfl,hA,O,hm,hv,hg,hM,⟨x,rfl⟩,q1,q2⟩:=h;cases hM with
 |cons hx eU=>
 cases eU;rename_i qx;have hx0:=hx;refine⟨_,(aC (aX 3 GD.nd (bK dM))
   (aC (fB PassesOwn.never rfl (fj (aD (Il G) (bG (aJ aH bf au)))) (bM (i:=4) GD.nd rfl (Or.inl rfl)) (ak (eZ (iZ plainAttrs_list slot_list_extend type_list_extend lG bF (bG cM))))) (ak (aG bF)))),?_⟩
 simp_arith! [eH];refine⟨zero_le _,λo no=>?_⟩;have s1:aA H (aN H o (.aB [])):=aA.laid no;have ho:aN H o (.aB []) o=some (.aB []):=ao;have hx:=hx.same s1;generalize aN H o (.aB [])=H1 at s1 ho hx⊢;obtain⟨e,hG,he⟩:=hx.ex;rw[ju hx.wf,Bo] at he;refine aL (aF.of (s1 _ _ hg)) (bQ rfl) ⟨qx,e,x.rows,x.cols,_,rfl,hG,he,iR _ _ _,hx.wf.r1,hx.wf.c1,hx.wf.r2,hx.wf.c2,λD H2 as nD s2 hD ha hp=>?_⟩;have ho2:=s2 _ _ ho;have Er:D≠o:=λz=>by rw[z,ho] at nD;cases nD
 refine⟨D,rfl,⟨_,aF.of hD⟩,iU (K:=K) (a:=D) (xs:=as.map V.ref) (λi σ Z=>But [o] H2 Z/\Z o=some (.aB (vI ((range i).flatMap λj=>(range x.rows).map λi=>x.mean A i j)))/\∃v,σ=[some (.ref p),some (.ref gv),some (.ref gs),some (.ref o),v]) ⟨(aA.refl _).but,ho2,none,rfl⟩ (λi σ Z _ q=>q.1.seq (aF.of hD) (by simp[Er])) ?_ ?_⟩
 ·rintro i v σ Z hi ⟨b1,fM,u,rfl⟩;rw[getElem?_map] at hi;obtain⟨z,hz,rfl⟩:=map_eq_some_iff.mp hi;obtain⟨nz,hz2⟩:=hp i z hz;have ha':as.length=x.cols:=ha;have hic:i<x.cols:=by have:=(List.getElem?_eq_some_iff.mp hz).1;lia
  have Br:z≠o:=λe=>by rw[e,ho] at nz;cases nz
  have uo:=b1 _ _ hz2 (by simp[Br]);have ec:Ik x.rows x.cols (tab x.rows x.cols λi j=>V.int (x.mean A i j)) i=vI ((range x.rows).map λt=>x.mean A t i):=by
   unfold Ik;rw[ZC hic];show _=((range x.rows).map λt=>x.mean A t i).map V.int;rw[map_map];rfl
  rw[ec] at uo;have hlen:((range i).flatMap λj=>(range x.rows).map λi=>x.mean A i j).length+x.rows<=100000:=by
   rw[dB,iR];have:=mul_le_mul (le_trans (le_of_lt hic) hx.wf.c2) hx.wf.r2;have:=hx.wf.r2;lia
  simp_arith! [Ge];refine⟨.inl ⟨rfl,_,aF.of fM⟩,o,z,_,_,rfl,rfl,fM,uo,by simp only[length_map,length_range];exact le_of_lt (lt_of_le_of_lt hlen yU),?_,?_,_,rfl⟩
  ·exact b1.trans But.wrote
  ·rw[ao,range_succ,flatMap_append];show some (HO.aB (map V.int _++map V.int _))=_;rw[<-map_append,flatMap_cons,flatMap_nil,append_nil]
 ·rintro σ Z ⟨b1,fM,u,rfl⟩;ac_rfl;rw[length_map,ha,dB] at fM;have sH:aA H Z:=λb z e=>b1 _ _ (s2 _ _ (s1 _ _ e)) (by simp[aW e no]);refine q2 _ o Z ?_ sH fM;exact Ent.by_ O (r:=x.cols) (c:=x.rows) (f:=λi j=>x.at_ j i) λi j hi hj=>hx.wf.at_ hj hi
theorem O5 (n:Nat)(v:V):(replicate n [v]).flatten=replicate n v:=by
 induction n with
 |zero=>rfl
 |succ n ih=>rw[replicate_succ,flatten_cons,ih,replicate_succ];rfl
inductive spOnes (a:Ad)(vs:List V)(H:Hp)(Q:VK)(E:XK):Prop where
 |mk (p:Addr) (k m n:Nat) (A:Arith) (cI:vs=[.ref p,.int n]) (cJ:dO a H p k m) (cQ:arith k m=some A) (dH:1<=n) (fC:n<=16) (gF:∀D Z,aA H Z->H D=none->Z D=some (.aB (vI (tab n n (GridTalk.unitAt A))))->Q (.ref D) Z)
theorem Bs (G:aU K mg a):bI P w K mg aq "ones_by_size" a.Ao 2 ["arithmetic","size"] (spOnes a):=G.Ot.bx λfd F=>by
 refine F.ok yx (λvs H Q E h=>?_) (λz A z s H vs Q E hr h=>?_)
 ·obtain⟨p,k,m,n,A,rfl,_⟩:=h;rfl
 obtain⟨p,k,m,n,A,rfl,hA,O,n1,n16,q⟩:=h;refine⟨_,(aC (aX 2 yx.nd (bD sO (bK (bG (aD (Mp G) (bG aK)))) (bD Nb (bK (bG (aD (Sy G) (bG aK)))) aR))) (ak (aG (qY vM (bD Nb bf aR) Y8 (je (bD mZ aR aR)))))),?_⟩;ac_rfl;refine⟨p,k,m,A,rfl,hA,O,by decide,λl1 nl1=>?_⟩;have s1:aA H (aN H l1 (.aB [.int A.one])):=aA.laid nl1;have h1:aN H l1 (.aB [.int A.one]) l1=some (.aB [.int A.one]):=ao;have e1:(λx A=>V.int A.one) k A=V.int A.one:=rfl
 try rw[e1]
 generalize aN H l1 (.aB [.int A.one])=H1 at s1 h1⊢;refine⟨p,k,m,A,rfl,hA.same s1,O,by decide,λl2 nl2=>?_⟩;have e2:(λx A=>V.int A.none_) k A=V.int A.none_:=rfl
 try rw[e2]
 have s2:aA H1 (aN H1 l2 (.aB [.int A.none_])):=aA.laid nl2;have h2:aN H1 l2 (.aB [.int A.none_]) l2=some (.aB [.int A.none_]):=ao;generalize aN H1 l2 (.aB [.int A.none_])=H2 at s2 h2⊢;refine⟨l2,_,_,rfl,rfl,h2,by lia,by lia,by rw[toNat_natCast];exact le_of_lt (cD (by simp;lia)),λl3 nl3=>?_⟩;rw[toNat_natCast];have er:=O5 n (V.int A.none_);rw[er];have s3:aA H2 (aN H2 l3 (.aB (replicate n (V.int A.none_)))):=aA.laid nl3;have h3:aN H2 l3 (.aB (replicate n (V.int A.none_))) l3=some (.aB (replicate n (V.int A.none_))):=ao;generalize aN H2 l3 (.aB (replicate n (V.int A.none_)))=H3 at s3 h3⊢;refine⟨l1,l3,_,_,rfl,rfl,s3 _ _ (s2 _ _ h1),h3,le_of_lt (cD (by simp;lia)),λl4 nl4=>?_⟩;have s4:aA H3 (aN H3 l4 (.aB ([V.int A.one]++replicate n (V.int A.none_)))):=aA.laid nl4;have h4:aN H3 l4 (.aB ([V.int A.one]++replicate n (V.int A.none_))) l4=some (.aB ([V.int A.one]++replicate n (V.int A.none_))):=ao;generalize aN H3 l4 (.aB ([V.int A.one]++replicate n (V.int A.none_)))=H4 at s4 h4⊢;ac_rfl;refine⟨l4,_,_,rfl,rfl,h4,by lia,by lia,?_,λl5 nl5=>?_⟩
 ·rw[toNat_natCast];refine le_of_lt (lt_of_le_of_lt ?_ yU);have:(([V.int A.one]++replicate n (V.int A.none_))).length=n+1:=by simp
  rw[this];have:=mul_le_mul (show n+1<=17 by lia) n16;lia
 rw[toNat_natCast];have s5:aA H4 (aN H4 l5 (.aB (replicate n ([V.int A.one]++replicate n (V.int A.none_))).flatten)):=aA.laid nl5;have h5:aN H4 l5 (.aB (replicate n ([V.int A.one]++replicate n (V.int A.none_))).flatten) l5=some (.aB (replicate n ([V.int A.one]++replicate n (V.int A.none_))).flatten):=ao;generalize aN H4 l5 (.aB (replicate n ([V.int A.one]++replicate n (V.int A.none_))).flatten)=H5 at s5 h5⊢;refine⟨.inl ⟨by lia,by lia⟩,l5,_,rfl,aF.of h5,λl6 nl6=>?_⟩;have hlen:(replicate n ([V.int A.one]++replicate n (V.int A.none_))).flatten.length=n*(n+1):=by
  rw[len_rep];simp
 have ecut:zq (replicate n ([V.int A.one]++replicate n (V.int A.none_))).flatten none (some ((n:Int)*(n:Int)))=vI (tab n n (GridTalk.unitAt A)):=by
  have e0:zq (replicate n ([V.int A.one]++replicate n (V.int A.none_))).flatten none (some ((n:Int)*(n:Int)))=zq (replicate n ([V.int A.one]++replicate n (V.int A.none_))).flatten (some ((0:Nat):Int)) (some (((0+n*n:Nat)):Int)):=by
   unfold zq;rw[Nat.zero_add];have:((n:Int)*(n:Int))=((n*n:Nat):Int):=by simp
   rw[this,HT.PL];rfl
  rw[e0,rA _ rfl rfl (by rw[hlen,mul_succ];lia),List.drop_zero,Bo];have:=ones_tab n n1 (V.int A.one) (V.int A.none_);rw[show[V.int A.one]++replicate n (V.int A.none_)=V.int A.one::replicate n (V.int A.none_) from rfl,this];refine pD λi j z z=>?_;unfold GridTalk.unitAt;split<;>rfl
 rw[ecut];exact q l6 _ (s1.trans (s2.trans (s3.trans (s4.trans (s5.trans (aA.laid nl6)))))) (s1.free (s2.free (s3.free (s4.free (s5.free nl6))))) ao
theorem d_ones (G:aU K mg a):bI P w K mg aq "ones" a.WK 3 ["arithmetic","given","grids"]
  (iK a (λz z g Ms=>∃n,g=[n]/\1<=n/\n<=16) (λg z=>(g.getD 0 0,g.getD 0 0)) λA g z=>(GridTalk.made A 0 (g.getD 0 0) (g.getD 0 0) (GridTalk.unitAt A)).toOption):=G.fn_ones.bx λfd F=>by
 refine F.ok sc_ones dI (λz A z s H vs Q E hr h=>?_);obtain⟨p,gv,gs,k,m,A,given,qs,Ms,rfl,hA,O,hm,hv,hg,hM,⟨n,rfl,n1,n16⟩,q1,q2⟩:=h;refine⟨_,(ak (aG (aD (Bs G) (bB aK (aJ aH aR au))))),?_⟩;ac_rfl;exact aL (aF.of hv) (bQ rfl) ⟨p,k,m,n,A,rfl,hA,O,n1,n16,λD Z s1 z hD=>q2 _ D Z (Ent.made O λi j z z=>Vl.oG O i j) s1 hD⟩
inductive spOnesLike (a:Ad)(vs:List V)(H:Hp)(Q:VK)(E:XK):Prop where
 |mk (p g:Addr) (k m:Nat) (A:Arith) (M:Mat) (cI:vs=[.ref p,.ref g]) (cJ:dO a H p k m) (cQ:arith k m=some A) (dH:MG a A H g M) (fC:M.rows=M.cols) (gF:((GridTalk.made A 0 M.rows M.rows (GridTalk.unitAt A)).toOption=none->∀Z,aA H Z->Q .non Z)) (iQ:∀U q Z,(GridTalk.made A 0 M.rows M.rows (GridTalk.unitAt A)).toOption=some U->U.rows=M.rows->U.cols=M.rows->H q=none->aA H Z->MG a A Z q U->Q (.ref q) Z)
theorem zQ (G:aU K mg a):bI P w K mg aq "ones_like" a.KN 4 ["arithmetic","grid"] (spOnesLike a):=G.W2.bx λfd F=>by
 have jO:=@xK P w K mg aq a G;refine F.ok Ws (λvs H Q E h=>?_) (λz A z s H vs Q E hr h=>?_)
 ·obtain⟨p,g,k,m,A,M,rfl,_⟩:=h;rfl
 obtain⟨p,g,k,m,A,M,rfl,hA,O,hM,mJ,q1,q2⟩:=h;obtain⟨e,hG,he⟩:=hM.ex;refine⟨_,(ak (aG (aD (yM G) (bB aK (iC jO (bC (aQ aR rfl) (bB (aQ aR rfl) (aD (Bs G) (bB aK (aQ aR rfl)))))))))),?_⟩;simp_arith! [oO G hG,mz G hG];refine⟨p,k,m,M.rows,A,rfl,hA,O,hM.wf.r1,hM.wf.r2,λD H1 s1 nD hD=>?_⟩;ac_rfl;refine rR (h:=M.rows) (c:=M.cols) rfl rfl λg2 H2 ng s2 lR=>?_;ac_rfl;rw[<-mJ] at lR;have hd:=Ent.made O (r:=M.rows) (c:=M.rows) (f:=GridTalk.unitAt A) λi j z z=>Vl.oG O i j;refine⟨p,g2,D,k,m,M.rows,M.rows,A,_,rfl,(hA.same s1).same s2,O,lR,s2 _ _ hD,hd.d,hd.len,hM.wf.r1,hM.wf.r2,hM.wf.r1,hM.wf.r2,λhn Z s3=>q1 (by rw[<-hd.w];exact hn) Z (s1.trans (s2.trans s3)),λU q Z hU h1 h2 nq s3 yV=>q2 U q Z (by rw[<-hd.w];exact hU) h1 h2 (s1.free (s2.free nq)) (s1.trans (s2.trans s3)) yV⟩
theorem d_single (G:aU K mg a):bI P w K mg aq "single" a.Lx 2 ["arithmetic","given","grids"]
  (iK a (λy A g Ms=>∃v,g=[v]/\v<18446744073709551616/\A.number v=true) (λy y=>(1,1)) λA g y=>some ⟨1,1,[[g.getD 0 0]]⟩):=G.fn_single.bx λfd F=>by
 refine F.ok sc_single dI (λy A y s H vs Q E hr h=>?_);obtain⟨p,gv,gs,k,m,A,given,qs,Ms,rfl,hA,O,hm,hv,hg,hM,⟨v,rfl,v64,hn⟩,q1,q2⟩:=h;refine⟨_,(ak (aG (bK (bG (aD (lN G) (bB aK (aJ aH aR au))))))),?_⟩;ac_rfl;refine aL (aF.of hv) (bQ rfl) ⟨p,k,m,A,v,rfl,hA,O,v64,by decide,λD nD=>?_⟩;refine q2 [A.mean v] D _ ⟨λz hz=>?_,rfl,?_⟩ (aA.laid nD) ao
 ·simp at hz;subst hz;exact Ar.eN O _ v64
 ·exact yL O (l:=[v]) λx hx=>by simp at hx;subst hx;exact⟨v64,hn⟩
theorem Bt (G:aU K mg a):bI P w K mg aq "plus_entry_by_entry" a.jL 4 ["arithmetic","given","grids"]
  (iK a (λz z g Ms=>∃x y,Ms=[x,y]/\x.rows=y.rows/\x.cols=y.cols) (λz Ms=>((M0 Ms).rows,(M0 Ms).cols)) λA z Ms=>(GridTalk.twoValue A 0 .sum (M0 Ms) (M1 Ms)).toOption):=G.zK.bx λfd F=>by
 refine F.ok zF dI (λz A z s H vs Q E hr h=>?_);obtain⟨p,gv,gs,k,m,A,given,qs,Ms,rfl,hA,O,hm,hv,hg,hM,⟨x,y,rfl,hr1,hc1⟩,q1,q2⟩:=h;cases hM with
 |cons hx eU=>
 cases eU with
 |cons hy uq=>
 cases uq;rename_i qx qy;obtain⟨e,hG,he⟩:=hx.ex;obtain⟨f,lR,hf⟩:=hy.ex;have Ij:=iD hx.wf;refine⟨_,(ak (aG (aD (d_sums G) (bC aK (bB (aQ (aJ aH bf au) rfl) (aQ (aJ aH bf au) rfl)))))),?_⟩;ac_rfl;refine aL (aF.of hg) (bQ rfl) ?_;simp_arith! [cU G hG];refine aL (aF.of hg) (cT rfl) ?_;simp_arith! [cU G lR];refine⟨p,e,f,k,m,A,_,_,rfl,hA,O,hm,aF.of he,aF.of hf,by rw[gC hx.wf,gC hy.wf,hr1,hc1],by rw[gC hx.wf];lia,nH O hx.wf,nH O hy.wf,λz z z z=>trivial,λD Z nD s1 hD=>?_⟩;have ey:tab y.rows y.cols (y.mean A)=tab x.rows x.cols (y.mean A):=by rw[hr1,hc1]
 rw[ju hx.wf,ju hy.wf,ey,Jy] at hD;exact q2 _ D Z (Ent.made O (r:=x.rows) (c:=x.cols) λi j hi hj=>Ar.jU O _ _ (hx.wf.dom O hi hj) (hy.wf.dom O (by lia) (by lia))) s1 hD
theorem zR (G:aU K mg a):bI P w K mg aq "minus_entry_by_entry" a.jy 4 ["arithmetic","given","grids"]
  (iK a (λz A g Ms=>∃x y,Ms=[x,y]/\x.rows=y.rows/\x.cols=y.cols/\A.minus.isSome=true) (λz Ms=>((M0 Ms).rows,(M0 Ms).cols)) λA z Ms=>(GridTalk.twoValue A 0 .diff (M0 Ms) (M1 Ms)).toOption):=G.xY.bx λfd F=>by
 refine F.ok gq dI (λz A z s H vs Q E hr h=>?_);obtain⟨p,gv,gs,k,m,A,given,qs,Ms,rfl,hA,O,hm,hv,hg,hM,⟨x,y,rfl,hr1,hc1,hmi⟩,q1,q2⟩:=h;cases hM with
 |cons hx eU=>
 cases eU with
 |cons hy uq=>
 cases uq;rename_i qx qy;obtain⟨e,hG,he⟩:=hx.ex;obtain⟨f,lR,hf⟩:=hy.ex;have Ij:=iD hx.wf;have U5:=iD hy.wf;refine⟨_,(ak (aG (lW (own:=[("x",3),("y",4)]) rfl gq.nd (sU rfl G.yJ (bB (aQ (aJ aH bf au) rfl) (aQ (aJ aH bf au) rfl))) (eG (N:=["arithmetic","given","grids","x","y"]) (sc:=bV (aM 80)) (by decide+kernel)) (λz z z z z=>(z8 (K:=K) (n:=2) rfl rfl (dZ (bM (i:=3) gq.nd rfl (Or.inl rfl)) (dZ (bM (i:=4) gq.nd rfl (Or.inl rfl)) lV)))) (λz z z z z=>gj) (λz z z z z=>(aD (JH G) (bC aK (bB bF cM))))))),?_⟩;ac_rfl;refine aL (aF.of hg) (bQ rfl) ?_;simp_arith! [cU G hG];refine aL (aF.of hg) (cT rfl) ?_;simp_arith! [cU G lR];have hxy:(ms A x).length=(ms A y).length:=by rw[gC hx.wf,gC hy.wf,hr1,hc1]
 have dx:=nH O hx.wf;have dy:=nH O hy.wf;have hz:(ms A x).length=(zipWith A.less (ms A x) (ms A y)).length:=by rw[List.length_zipWith];lia
 refine⟨e,f,_,_,rfl,aF.of he,aF.of hf,lcZ (λi=>V.int ((zipWith A.less (ms A x) (ms A y)).getD i 0)) (aF.of he) (aF.of hf) (by rw[length_map,length_map];exact hxy) (by rw[length_map,gC hx.wf];exact cD (by lia)) (λv u=>rfl) ?_ ?_⟩
 ·intro i u v Z N hu hv' s1 hN;obtain⟨u,rfl,hu1⟩:=jq hu;obtain⟨v,rfl,hv1⟩:=jq hv';have qq:=hN Z (aA.refl _);rw[xJ hu1 hv1] at qq;ac_rfl;exact⟨p,k,m,A,u,v,rfl,hA.same s1,O,hm,dx u (mem_of_getElem? hu1),dy v (mem_of_getElem? hv1),hmi,qq⟩
 ·intro D Z nD s1 hD;rw[length_map,xH _ hz.symm] at hD;have ey:tab y.rows y.cols (y.mean A)=tab x.rows x.cols (y.mean A):=by rw[hr1,hc1]
  rw[ju hx.wf,ju hy.wf,ey,Jy] at hD;exact q2 _ D Z (Ent.made O (r:=x.rows) (c:=x.cols) λi j hi hj=>Ar.wu O _ _ (hx.wf.dom O hi hj) (hy.wf.dom O (by lia) (by lia))) s1 hD
theorem zT (G:aU K mg a):bI P w K mg aq "times_entry_by_entry" a.jz 4 ["arithmetic","given","grids"]
  (iK a (λz A g Ms=>∃x y,Ms=[x,y]/\x.rows=y.rows/\x.cols=y.cols) (λz Ms=>((M0 Ms).rows,(M0 Ms).cols)) λA z Ms=>(GridTalk.twoValue A 0 .each (M0 Ms) (M1 Ms)).toOption):=G.xZ.bx λfd F=>by
 refine F.ok gA dI (λz A z s H vs Q E hr h=>?_);obtain⟨p,gv,gs,k,m,A,given,qs,Ms,rfl,hA,O,hm,hv,hg,hM,⟨x,y,rfl,hr1,hc1⟩,q1,q2⟩:=h;cases hM with
 |cons hx eU=>
 cases eU with
 |cons hy uq=>
 cases uq;rename_i qx qy;obtain⟨e,hG,he⟩:=hx.ex;obtain⟨f,lR,hf⟩:=hy.ex;have Ij:=iD hx.wf;have U5:=iD hy.wf;refine⟨_,(ak (aG (lW (own:=[("x",3),("y",4)]) rfl gA.nd (sU rfl G.yJ (bB (aQ (aJ aH bf au) rfl) (aQ (aJ aH bf au) rfl))) (eG (N:=["arithmetic","given","grids","x","y"]) (sc:=bV (aM 82)) (by decide+kernel)) (λz z z z z=>(z8 (K:=K) (n:=2) rfl rfl (dZ (bM (i:=3) gA.nd rfl (Or.inl rfl)) (dZ (bM (i:=4) gA.nd rfl (Or.inl rfl)) lV)))) (λz z z z z=>gj) (λz z z z z=>(aD (vU G) (bC aK (bB bF cM))))))),?_⟩;ac_rfl;refine aL (aF.of hg) (bQ rfl) ?_;simp_arith! [cU G hG];refine aL (aF.of hg) (cT rfl) ?_;simp_arith! [cU G lR];have hxy:(ms A x).length=(ms A y).length:=by rw[gC hx.wf,gC hy.wf,hr1,hc1]
 have dx:=nH O hx.wf;have dy:=nH O hy.wf;have hz:(ms A x).length=(zipWith A.times (ms A x) (ms A y)).length:=by rw[List.length_zipWith];lia
 refine⟨e,f,_,_,rfl,aF.of he,aF.of hf,lcZ (λi=>V.int ((zipWith A.times (ms A x) (ms A y)).getD i 0)) (aF.of he) (aF.of hf) (by rw[length_map,length_map];exact hxy) (by rw[length_map,gC hx.wf];exact cD (by lia)) (λv u=>rfl) ?_ ?_⟩
 ·intro i u v Z N hu hv' s1 hN;obtain⟨u,rfl,hu1⟩:=jq hu;obtain⟨v,rfl,hv1⟩:=jq hv';have qq:=hN Z (aA.refl _);rw[xJ hu1 hv1] at qq;ac_rfl;exact⟨p,k,m,A,u,v,rfl,hA.same s1,O,hm,dx u (mem_of_getElem? hu1),dy v (mem_of_getElem? hv1),λh2=>.inl (xM O hx.wf h2 u (mem_of_getElem? hu1)),qq⟩
 ·intro D Z nD s1 hD;rw[length_map,xH _ hz.symm] at hD;have ey:tab y.rows y.cols (y.mean A)=tab x.rows x.cols (y.mean A):=by rw[hr1,hc1]
  rw[ju hx.wf,ju hy.wf,ey,Jy] at hD;exact q2 _ D Z (Ent.made O (r:=x.rows) (c:=x.cols) λi j hi hj=>Ar.dX O _ _ (hx.wf.dom O hi hj) (hy.wf.dom O (by lia) (by lia))) s1 hD
theorem d_multiple (G:aU K mg a):bI P w K mg aq "multiple" a.CQ 4 ["arithmetic","given","grids"]
  (iK a (λz A g Ms=>∃x y,Ms=[x,y]/\x.rows=1/\x.cols=1) (λz Ms=>((M1 Ms).rows,(M1 Ms).cols)) λA z Ms=>(GridTalk.twoValue A 0 .scale (M0 Ms) (M1 Ms)).toOption):=G.YJ.bx λfd F=>by
 refine F.ok Yz dI (λz A z s H vs Q E hr h=>?_);obtain⟨p,gv,gs,k,m,A,given,qs,Ms,rfl,hA,O,hm,hv,hg,hM,⟨x,y,rfl,hr1,hc1⟩,q1,q2⟩:=h;cases hM with
 |cons hx eU=>
 cases eU with
 |cons hy uq=>
 cases uq;rename_i qx qy;obtain⟨e,hG,he⟩:=hx.ex;obtain⟨f,lR,hf⟩:=hy.ex;have Ij:=iD hx.wf;have U5:=iD hy.wf;have h00:(ms A x)[0]? =some (x.mean A 0 0):=by
  have:=O1 hx.wf (i:=0) (j:=0) (by lia) (by lia);rw[Nat.zero_mul,Nat.zero_add] at this;exact this
 refine⟨_,(ak (aG (aD (KY G) (bC aK (bB (aJ aH (aQ (aJ aH bf au) rfl) au) (aQ (aJ aH bf au) rfl)))))),?_⟩;ac_rfl;refine aL (aF.of hg) (bQ rfl) ?_;simp_arith! [cU G hG];refine aL (aF.of he) (bQ (by rw[getElem?_map,h00];rfl)) ?_;refine aL (aF.of hg) (cT rfl) ?_;simp_arith! [cU G lR];refine⟨p,f,k,m,A,_,_,rfl,hA,O,hm,aF.of hf,by rw[gC hy.wf];lia,hx.wf.dom O (by lia) (by lia),nH O hy.wf,λh2=>xM O hx.wf h2 _ (mem_of_getElem? h00),λD Z nD s1 hD=>?_⟩;rw[ju hy.wf,rE] at hD;exact q2 _ D Z (Ent.made O (r:=y.rows) (c:=y.cols) λi j hi hj=>Ar.dX O _ _ (hx.wf.dom O (by lia) (by lia)) (hy.wf.dom O hi hj)) s1 hD
theorem d_below (G:aU K mg a):bI P w K mg aq "below" a.Qu 1 ["arithmetic","given","grids"]
  (iK a (λz A g Ms=>∃x y,Ms=[x,y]/\x.cols=y.cols) (λz Ms=>((M0 Ms).rows+(M1 Ms).rows,(M0 Ms).cols)) λA z Ms=>(GridTalk.twoValue A 0 .below (M0 Ms) (M1 Ms)).toOption):=G.fn_below.bx λfd F=>by
 refine F.ok sc_below dI (λz A z s H vs Q E hr h=>?_);obtain⟨p,gv,gs,k,m,A,given,qs,Ms,rfl,hA,O,hm,hv,hg,hM,⟨x,y,rfl,hc1⟩,q1,q2⟩:=h;cases hM with
 |cons hx eU=>
 cases eU with
 |cons hy uq=>
 cases uq;rename_i qx qy;obtain⟨e,hG,he⟩:=hx.ex;obtain⟨f,lR,hf⟩:=hy.ex;have Ij:=iD hx.wf;have U5:=iD hy.wf;refine⟨_,(ak (aG (bD sO (aQ (aJ aH bf au) rfl) (aQ (aJ aH bf au) rfl)))),?_⟩;ac_rfl;refine aL (aF.of hg) (bQ rfl) ?_;simp_arith! [cU G hG];refine aL (aF.of hg) (cT rfl) ?_;simp_arith! [cU G lR];refine⟨e,f,_,_,rfl,rfl,he,hf,by simp only[length_map];rw[gC hx.wf,gC hy.wf];exact le_of_lt (cD (by lia)),λD nD=>?_⟩;have e1:vI (ms A x)++vI (ms A y)=vI (tab (x.rows+y.rows) x.cols λi j=>A.mean (if i<x.rows then x.at_ i j else y.at_ (i-x.rows) j)):=by
  show(ms A x).map V.int++(ms A y).map V.int=_;rw[<-map_append,tab_append,ju hx.wf,ju hy.wf, <-hc1]
  congr 2
  ·refine pD λi j hi hj=>?_;rw[if_pos hi];rfl
  ·refine pD λi j hi hj=>?_;rw[if_neg (by lia),Nat.add_sub_cancel_left];rfl
 rw[e1];refine q2 _ D _ (Ent.by_ O (r:=x.rows+y.rows) (c:=x.cols) (f:=λi j=>if i<x.rows then x.at_ i j else y.at_ (i-x.rows) j) λi j hi hj=>?_) (aA.laid nD) ao;show(if i<x.rows then x.at_ i j else y.at_ (i-x.rows) j)<_/\A.number (if i<x.rows then x.at_ i j else y.at_ (i-x.rows) j)=true;split
 ·exact hx.wf.at_ (by assumption) hj
 ·exact hy.wf.at_ (by lia) (by lia)
abbrev mV (A:Arith)(M:Mat)(i:Nat):List Int:=(range M.cols).map λj=>M.mean A i j
theorem rowL_ms {A:Arith}{M:Mat}(h:Vl.WF A M){i:Nat}(hi:i<M.rows):QT (vI (ms A M)) M.cols i=vI (mV A M i):=by
 rw[ju h,Bo];show((tab M.rows M.cols λi j=>V.int (M.mean A i j)).drop (i*M.cols)).take M.cols=_;rw[tab_row hi];show _=((range M.cols).map λj=>M.mean A i j).map V.int;rw[map_map];rfl
theorem jw (G:aU K mg a){A:Arith}{H:Hp}{q:Addr}{M:Mat}(h:MG a A H q M){Q:VK}{E:XK}
  (k:∀D Z (as:List Addr),H D=none->aA H Z->Z D=some (.aB (as.map V.ref))->as.length=M.rows->(∀i p,as[i]? =some p->i<M.rows/\H p=none/\Z p=some (.aB (vI (mV A M i))))->Q (.ref D) Z):
  QV a (λz c xs i=>QT xs c i) (λh z=>h) [.ref q] H Q E:=by
 obtain⟨e,hG,he⟩:=h.ex;refine⟨q,e,M.rows,M.cols,_,rfl,hG,he,by rw[length_map];exact gC h.wf,h.wf.r1,h.wf.c1,h.wf.r2,h.wf.c2,λD Z as nD s hD ha hp=>k D Z as nD s hD ha λi p hi=>?_⟩;obtain⟨h1,h2⟩:=hp i p hi;have hlt:i<M.rows:=by
  have:=(List.getElem?_eq_some_iff.mp hi).1;have ha':as.length=M.rows:=ha;lia
 have e2:=rowL_ms h.wf hlt;exact⟨hlt,h1,by rw[h2];show some (HO.aB (QT (vI (ms A M)) M.cols i))=_;rw[e2]⟩
theorem vI_cut (l:List Int)(i n:Nat):((vI l).drop i).take n=vI ((l.drop i).take n):=by
 show((l.map V.int).drop i).take n=((l.drop i).take n).map V.int;rw[<-map_drop, <-map_take]
theorem gW (l:List Int):(vI l).length=l.length:=length_map ..
theorem Iv (l k:List Int):vI l++vI k=vI (l++k):=(map_append ..).symm
theorem d_cut (G:aU K mg a):bI P w K mg aq "cut" a.f_cut 3 ["arithmetic","given","grids"]
  (iK a (λy y g Ms=>∃i r j c x,g=[i,r,j,c]/\Ms=[x]/\i+r<=x.rows/\j+c<=x.cols) (λg y=>(g.getD 1 0,g.getD 3 0)) λA g Ms=>(GridTalk.oneValue A 0 (.cut (g.getD 0 0) (g.getD 1 0) (g.getD 2 0) (g.getD 3 0)) (M0 Ms)).toOption):=G.fn_cut.bx λfd F=>by
 refine F.ok Wt dI (λy A y s H vs Q E hr h=>?_);obtain⟨p,gv,gs,k,m,A,given,qs,Ms,rfl,hA,O,hm,hv,hg,hM,⟨i0,r,j0,c,x,rfl,rfl,hir,hjc⟩,q1,q2⟩:=h;cases hM with
 |cons hx eU=>
 cases eU;rename_i qx;refine⟨_,(aC (aX 3 Wt.nd (bK dM)) (aC (fB PassesOwn.never rfl (fj (qY vM (aD (jt G) (bG (aJ aH bf au))) (je (aJ aH aR au)) (je (bD jD (aJ aH aR au) (aJ aH aR au))))) (bM (i:=4) Wt.nd rfl (Or.inl rfl)) (ak (eZ (iZ plainAttrs_list slot_list_extend type_list_extend lG bF (bG (qY vM cM (je (aJ aH aR au)) (je (bD jD (aJ aH aR au) (aJ aH aR au))))))))) (ak (aG bF)))),?_⟩;simp_arith! [eH];refine⟨zero_le _,λo no=>?_⟩;have s1:aA H (aN H o (.aB [])):=aA.laid no;have ho:aN H o (.aB []) o=some (.aB []):=ao;have hx:=hx.same s1;generalize aN H o (.aB [])=H1 at s1 ho hx⊢;refine aL (aF.of (s1 _ _ hg)) (bQ rfl) (jw G hx λD H2 as nD s2 hD ha hp=>?_);have hv2:=s2 _ _ (s1 _ _ hv);refine aL (aF.of hv2) (bQ rfl) ⟨_,rfl,aL (aF.of hv2) (bQ rfl) (aL (aF.of hv2) (cT rfl) ⟨_,_,rfl,rfl,_,rfl,D,_,rfl,aF.of hD,λD2 nD2=>?_⟩)⟩;rw[rA (as.map V.ref) (i:=i0) (n:=r) rfl (by simp) (by rw[length_map];lia)];have s3:aA H2 (aN H2 D2 (.aB (((as.map V.ref).drop i0).take r))):=aA.laid nD2;have hD2:aN H2 D2 (.aB (((as.map V.ref).drop i0).take r)) D2=some (.aB (((as.drop i0).take r).map V.ref)):=by rw[ao, <-map_drop, <-map_take]
 generalize aN H2 D2 (.aB (((as.map V.ref).drop i0).take r))=H3 at s3 hD2⊢;have fM:=s3 _ _ (s2 _ _ ho);have Er:D2≠o:=λz=>by rw[z,s2 _ _ ho] at nD2;cases nD2
 have hl2:((as.drop i0).take r).length=r:=by rw[length_take,length_drop];lia
 have ngo:gv≠o:=λz=>by rw[z,no] at hv;cases hv
 refine⟨D2,rfl,⟨_,aF.of hD2⟩,iU (K:=K) (a:=D2) (xs:=((as.drop i0).take r).map V.ref) (λt σ Z=>But [o] H3 Z/\Z o=some (.aB (vI ((range t).flatMap λu=>(range c).map λv=>x.mean A (i0+u) (j0+v))))/\∃v,σ=[some (.ref p),some (.ref gv),some (.ref gs),some (.ref o),v]) ⟨(aA.refl _).but,fM,none,rfl⟩ (λt σ Z _ q=>q.1.seq (aF.of hD2) (by simp[Er])) ?_ ?_⟩
 ·rintro t v σ Z ht ⟨b1,dR,u,rfl⟩;rw[getElem?_map] at ht;obtain⟨z,hz,rfl⟩:=map_eq_some_iff.mp ht;have htr:t<r:=by have:=(List.getElem?_eq_some_iff.mp hz).1;lia
  rw[getElem?_take_of_lt htr,getElem?_drop] at hz;obtain⟨hlt,nz,hz2⟩:=hp (i0+t) z hz;have Br:z≠o:=λe=>by rw[e,ho] at nz;cases nz
  have uo:=b1 _ _ (s3 _ _ hz2) (by simp[Br]);have hv4:=b1 _ _ (s3 _ _ hv2) (by simp[ngo]);simp_arith! [Ge];refine⟨.inl ⟨rfl,_,aF.of dR⟩,aL (aF.of hv4) (dU (j:=2) rfl) ⟨_,rfl,aL (aF.of hv4) (dU (j:=2) rfl) (aL (aF.of hv4) (dU (j:=3) rfl) ⟨_,_,rfl,rfl,_,rfl,z,_,rfl,aF.of uo,λl nl=>?_⟩)⟩⟩;rw[rA (vI (mV A x (i0+t))) (i:=j0) (n:=c) rfl (by simp) (by rw[length_map,length_map,length_range];exact hjc),vI_cut];have e1:((mV A x (i0+t)).drop j0).take c=(range c).map λv=>x.mean A (i0+t) (j0+v):=by
   apply ext_getElem?;intro v;by_cases hv:v<c
   ·rw[getElem?_take_of_lt hv,getElem?_drop,getElem?_map,getElem?_range (by lia),getElem?_map,getElem?_range hv];rfl
   ·rw[getElem?_eq_none (by rw[length_take];lia),getElem?_eq_none (by rw[length_map,length_range];lia)]
  rw[e1];have nlo:l≠o:=λz=>by rw[z,dR] at nl;cases nl
  have hlen:((range t).flatMap λu=>(range c).map λv=>x.mean A (i0+u) (j0+v)).length+c<=100000:=by
   rw[dB,iR];have a1:=hx.wf.r2;have a2:=hx.wf.c2;have:=mul_le_mul (show t<=16 by lia) (show c<=16 by lia);lia
  refine⟨o,l,_,_,rfl,rfl,by rw[aO (Ne.symm nlo)];exact dR,ao,by rw[gW,gW,length_map,length_range];exact le_of_lt (lt_of_le_of_lt hlen yU),?_,?_,_,rfl⟩
  ·exact b1.trans ((aA.laid nl).but.trans But.wrote)
  ·rw[ao,Iv,range_succ,flatMap_append,flatMap_cons,flatMap_nil,append_nil]
 ·rintro σ Z ⟨b1,dR,u,rfl⟩;ac_rfl;rw[length_map,hl2,dB] at dR;have sH:aA H Z:=λb z e=>b1 _ _ (s3 _ _ (s2 _ _ (s1 _ _ e))) (by simp[aW e no]);refine q2 _ o Z ?_ sH dR;exact Ent.by_ O (r:=r) (c:=c) (f:=λu v=>x.at_ (i0+u) (j0+v)) λi j hi hj=>hx.wf.at_ (by lia) (by lia)
theorem d_beside (G:aU K mg a):bI P w K mg aq "beside" a.Lz 3 ["arithmetic","given","grids"]
  (iK a (λn A g Ms=>∃x y,Ms=[x,y]/\x.rows=y.rows) (λn Ms=>((M0 Ms).rows,(M0 Ms).cols+(M1 Ms).cols)) λA n Ms=>(GridTalk.twoValue A 0 .beside (M0 Ms) (M1 Ms)).toOption):=G.fn_beside.bx λfd F=>by
 refine F.ok yC dI (λn A n s H vs Q E hr h=>?_);obtain⟨p,gv,gs,k,m,A,given,qs,Ms,rfl,hA,O,hm,hv,hg,hM,⟨x,y,rfl,hr1⟩,q1,q2⟩:=h;cases hM with
 |cons hx eU=>
 cases eU with
 |cons hy uq=>
 cases uq;rename_i qx qy;have Ij:=iD hx.wf;have U5:=iD hy.wf;refine⟨_,(aC (aX 3 yC.nd (bK dM))
   (aC (fB PassesOwn.never rfl (sU rfl G.yJ (bB (aD (jt G) (bG (aJ aH bf au))) (aD (jt G) (bG (aJ aH bf au))))) (FQ rfl (dZ (bM (i:=4) yC.nd rfl (Or.inl rfl)) (dZ (bM (i:=5) yC.nd rfl (Or.inl rfl)) lV))) (ak (eZ (iZ plainAttrs_list slot_list_extend type_list_extend lG bF (bG (bD sO cM iV)))))) (ak (aG bF)))),?_⟩
 simp_arith! [eH];refine⟨zero_le _,λo no=>?_⟩;have s1:aA H (aN H o (.aB [])):=aA.laid no;have ho:aN H o (.aB []) o=some (.aB []):=ao;have hx:=hx.same s1;have hy:=hy.same s1;generalize aN H o (.aB [])=H1 at s1 ho hx hy⊢;refine aL (aF.of (s1 _ _ hg)) (bQ rfl) (jw G hx λD H2 as nD s2 hD ha hp=>?_);have hy:=hy.same s2;refine aL (aF.of (s2 _ _ (s1 _ _ hg))) (cT rfl) (jw G hy λD' H3 bs nD' s3 hD' hb hp'=>?_);have hD3:=s3 _ _ hD;have fM:=s3 _ _ (s2 _ _ ho);have Er:D≠o:=λz=>by rw[z,ho] at nD;cases nD
 have nDo':D'≠o:=λz=>by rw[z,s2 _ _ ho] at nD';cases nD'
 refine⟨D,D',_,_,rfl,aF.of hD3,aF.of hD',Qe (K:=K) (a:=D) (b:=D') (xs:=as.map V.ref) (ys:=bs.map V.ref) (λt σ Z=>But [o] H3 Z/\Z o=some (.aB (vI ((range t).flatMap λi=>mV A x i++mV A y i)))/\∃v v',σ=[some (.ref p),some (.ref gv),some (.ref gs),some (.ref o),v,v']) ⟨(aA.refl _).but,fM,none,none,rfl⟩ (λt σ Z q=>⟨q.1.seq (aF.of hD3) (by simp[Er]),q.1.seq (aF.of hD') (by simp[nDo'])⟩) (by rw[length_map,length_map];lia) ?_ ?_⟩
 ·rintro t v v' σ Z T ht ht' ⟨b1,dR,u,u',rfl⟩ nT;rw[getElem?_map] at ht ht';obtain⟨z,hz,rfl⟩:=map_eq_some_iff.mp ht;obtain⟨z',hz',rfl⟩:=map_eq_some_iff.mp ht';obtain⟨hlt,nz,hz2⟩:=hp t z hz;obtain⟨hlt',nz',hz2'⟩:=hp' t z' hz';have Br:z≠o:=λe=>by rw[e,ho] at nz;cases nz
  have nzo':z'≠o:=λe=>by rw[e,s2 _ _ ho] at nz';cases nz'
  have uo:=b1 _ _ (s3 _ _ hz2) (by simp[Br]);have hz3':=b1 _ _ hz2' (by simp[nzo']);have sT:aA Z (aN Z T (.tup [.ref z,.ref z'])):=aA.laid nT;refine⟨T,_,rfl,bR.of ao,rfl,_,_,rfl,_,_,rfl,rfl,?_⟩;generalize aN Z T (.tup [.ref z,.ref z'])=H4 at sT⊢;simp_arith! [Ge];refine⟨.inl ⟨rfl,_,aF.of (sT _ _ dR)⟩,z,z',_,_,rfl,rfl,sT _ _ uo,sT _ _ hz3',by rw[gW,gW];simp only[length_map,length_range];exact le_of_lt (cD (by have:=hx.wf.c2;have:=hy.wf.c2;lia)),λl nl=>?_⟩;have nlo:l≠o:=λz=>by rw[z,sT _ _ dR] at nl;cases nl
  rw[Iv];have hlen:((range t).flatMap λi=>mV A x i++mV A y i).length+(x.cols+y.cols)<=100000:=by
   rw[N8,iR];have a1:=hx.wf.r2;have a2:=hx.wf.c2;have a3:=hy.wf.c2;have:=mul_le_mul (show t<=16 by lia) (show x.cols+y.cols<=32 by lia);lia
  refine⟨o,l,_,_,rfl,rfl,by rw[aO (Ne.symm nlo)];exact sT _ _ dR,ao,by rw[gW,gW,length_append];simp only[length_map,length_range];exact le_of_lt (lt_of_le_of_lt hlen yU),?_,?_,_,_,rfl⟩
  ·exact b1.trans (sT.but.trans ((aA.laid nl).but.trans But.wrote))
  ·rw[ao,Iv,range_succ,flatMap_append,flatMap_cons,flatMap_nil,append_nil]
 ·rintro σ Z ⟨b1,dR,u,u',rfl⟩;ac_rfl;rw[length_map,ha,N8] at dR;have sH:aA H Z:=λb z e=>b1 _ _ (s3 _ _ (s2 _ _ (s1 _ _ e))) (by simp[aW e no]);refine q2 _ o Z ?_ sH dR;have e1:(tab x.rows (x.cols+y.cols) λi j=>if j<x.cols then x.mean A i j else y.mean A i (j-x.cols))=tab x.rows (x.cols+y.cols) λi j=>A.mean (if j<x.cols then x.at_ i j else y.at_ i (j-x.cols)):=pD λi j n n=>by split<;>rfl
  rw[e1];refine Ent.by_ O (r:=x.rows) (c:=x.cols+y.cols) (f:=λi j=>if j<x.cols then x.at_ i j else y.at_ i (j-x.cols)) λi j hi hj=>?_;show(if j<x.cols then x.at_ i j else y.at_ i (j-x.cols))<_/\A.number (if j<x.cols then x.at_ i j else y.at_ i (j-x.cols))=true;split
  ·exact hx.wf.at_ hi (by assumption)
  ·exact hy.wf.at_ (by lia) (by lia)
theorem Bu {α β:Type}{n:Nat}{f:α->List β}(h:∀x,(f x).length=n):∀l:List α,(l.flatMap f).length=l.length*n
 |[]=>by simp
 |x::l=>by rw[flatMap_cons,length_append,h x,Bu h l,length_cons,succ_mul,Nat.add_comm]
theorem Bv {β:Type}(t:Nat)(f:Nat->List β):(range (t+1)).flatMap f=(range t).flatMap f++f t:=by
 rw[range_succ,flatMap_append,flatMap_cons,flatMap_nil,append_nil]
abbrev L4 (A:Arith)(x y:Mat)(i i' j:Nat):List Int:=(range y.cols).map λj'=>A.times (x.mean A i j) (y.mean A i' j')
abbrev L3 (A:Arith)(x y:Mat)(i i':Nat):List Int:=(range x.cols).flatMap λj=>L4 A x y i i' j
abbrev Z2 (A:Arith)(x y:Mat)(i:Nat):List Int:=(range y.rows).flatMap λi'=>L3 A x y i i'
theorem Xr {A:Arith}{x y:Mat}{i i' j:Nat}:(L4 A x y i i' j).length=y.cols:=by simp
theorem l3_len {A:Arith}{x y:Mat}{i i':Nat}:(L3 A x y i i').length=x.cols*y.cols:=by rw[Bu (n:=y.cols) λj=>Xr,length_range]
theorem l2_len {A:Arith}{x y:Mat}{i:Nat}:(Z2 A x y i).length=y.rows*(x.cols*y.cols):=by rw[Bu (n:=x.cols*y.cols) λj=>l3_len,length_range]
theorem blk_bound {A:Arith}{x y:Mat}(hx:Vl.WF A x)(hy:Vl.WF A y){t u v:Nat}(ht:t<=x.rows)(hu:u<=y.rows)(hv:v<=x.cols):
  (((range t).flatMap λi=>Z2 A x y i)++((range u).flatMap λi'=>L3 A x y t i')++((range v).flatMap λj=>L4 A x y t u j)).length+y.cols<=100000:=by
 rw[length_append,length_append,Bu (n:=y.rows*(x.cols*y.cols)) λi=>l2_len,Bu (n:=x.cols*y.cols) λi=>l3_len,Bu (n:=y.cols) λi=>Xr,length_range,length_range,length_range];have a1:=hx.r2;have a2:=hx.c2;have a3:=hy.r2;have a4:=hy.c2;have b1:x.cols*y.cols<=16*16:=mul_le_mul a2 a4;have b2:y.rows*(x.cols*y.cols)<=16*(16*16):=mul_le_mul a3 b1;have b3:t*(y.rows*(x.cols*y.cols))<=16*(16*(16*16)):=mul_le_mul (by lia) b2;have b4:u*(x.cols*y.cols)<=16*(16*16):=mul_le_mul (by lia) b1;have b5:v*y.cols<=16*16:=mul_le_mul (by lia) a4;lia
theorem d_blocks (G:aU K mg a):bI P w K mg aq "blocks" a.f_blocks 4 ["arithmetic","given","grids"]
  (iK a (λr A g Ms=>∃x y,Ms=[x,y]) (λr Ms=>((M0 Ms).rows*(M1 Ms).rows,(M0 Ms).cols*(M1 Ms).cols)) λA r Ms=>(GridTalk.twoValue A 0 .kron (M0 Ms) (M1 Ms)).toOption):=G.fn_blocks.bx λfd F=>by
 refine F.ok tG dI (λr A r s H vs Q E hr h=>?_);obtain⟨p,gv,gs,k,m,A,given,qs,Ms,rfl,hA,O,hm,hv,hg,hM,⟨x,y,rfl⟩,q1,q2⟩:=h;cases hM with
 |cons hx eU=>
 cases eU with
 |cons hy uq=>
 cases uq;rename_i qx qy;refine⟨_,(aC (aX 3 tG.nd (bK dM)) (aC (fB PassesOwn.never rfl (fj (aD (jt G) (bG (aJ aH bf au)))) (bM (i:=4) tG.nd rfl (Or.inl rfl)) (ak (fB PassesOwn.never rfl (fj (aD (jt G) (bG (aJ aH bf au)))) (bM (i:=5) tG.nd rfl (Or.inl rfl)) (ak (fB PassesOwn.never rfl (fj cM) (bM (i:=6) tG.nd rfl (Or.inl rfl)) (ak (eZ (iZ plainAttrs_list slot_list_extend type_list_extend lG bF (bG (aD (KY G) (bC aK (bB Cm iV)))))))))))) (ak (aG bF)))),?_⟩;simp_arith! [eH];refine⟨zero_le _,λo no=>?_⟩;have s1:aA H (aN H o (.aB [])):=aA.laid no;have ho:aN H o (.aB []) o=some (.aB []):=ao;generalize aN H o (.aB [])=H1 at s1 ho⊢;refine aL (aF.of (s1 _ _ hg)) (bQ rfl) (jw G (hx.same s1) λD H2 as nD s2 hD ha hp=>?_);have ho2:=s2 _ _ ho;have Er:D≠o:=λz=>by rw[z,ho] at nD;cases nD
 refine⟨D,rfl,⟨_,aF.of hD⟩,iU (K:=K) (a:=D) (xs:=as.map V.ref) (λt σ Z=>But [o] H2 Z/\Z o=some (.aB (vI ((range t).flatMap λi=>Z2 A x y i)))/\∃v1 v2 v3,σ=[some (.ref p),some (.ref gv),some (.ref gs),some (.ref o),v1,v2,v3]) ⟨(aA.refl _).but,ho2,none,none,none,rfl⟩ (λt σ Z _ q=>q.1.seq (aF.of hD) (by simp[Er])) ?_ ?_⟩
 ·rintro t v σ H3 ht ⟨b1,fM,v1,v2,v3,rfl⟩;rw[getElem?_map] at ht;obtain⟨z,hz,rfl⟩:=map_eq_some_iff.mp ht;obtain⟨htr,nz,hz2⟩:=hp t z hz;have Br:z≠o:=λe=>by rw[e,ho] at nz;cases nz
  have uo:=b1 _ _ hz2 (by simp[Br]);have SX:aA H H3:=λb u e=>b1 _ _ (s2 _ _ (s1 _ _ e)) (by simp[aW e no]);simp_arith! [eH];refine aL (aF.of (SX _ _ hg)) (cT rfl) (jw G (hy.same SX) λD' H4 bs nD' s4 hD' hb hp'=>?_);have dR:=s4 _ _ fM;have nDo':D'≠o:=λz=>by rw[z,fM] at nD';cases nD'
  refine⟨D',rfl,⟨_,aF.of hD'⟩,iU (K:=K) (a:=D') (xs:=bs.map V.ref) (λu σ Z=>But [o] H4 Z/\Z o=some (.aB (vI (((range t).flatMap λi=>Z2 A x y i)++(range u).flatMap λi'=>L3 A x y t i')))/\∃v2 v3,σ=[some (.ref p),some (.ref gv),some (.ref gs),some (.ref o),some (.ref z),v2,v3]) ⟨(aA.refl _).but,by rw[List.range_zero,flatMap_nil,append_nil];exact dR,v2,v3,rfl⟩ (λt σ Z _ q=>q.1.seq (aF.of hD') (by simp[nDo'])) ?_ ?_⟩
  ·rintro u v σ H5 hu ⟨b5,Es,v2,v3,rfl⟩;rw[getElem?_map] at hu;obtain⟨z',hz',rfl⟩:=map_eq_some_iff.mp hu;obtain⟨hur,nz',hz2'⟩:=hp' u z' hz';have nzo':z'≠o:=λe=>by rw[e,fM] at nz';cases nz'
   have hz5':=b5 _ _ hz2' (by simp[nzo']);have hz5:=b5 _ _ (s4 _ _ uo) (by simp[Br]);have sH5:aA H H5:=λb u e=>b5 _ _ (s4 _ _ (SX _ _ e)) (by simp[aW e no]);simp_arith! [eH];refine⟨z,rfl,⟨_,aF.of hz5⟩,iU (K:=K) (a:=z) (xs:=vI (mV A x t)) (λv σ Z=>But [o] H5 Z/\Z o=some (.aB (vI (((range t).flatMap λi=>Z2 A x y i)++((range u).flatMap λi'=>L3 A x y t i')++(range v).flatMap λj=>L4 A x y t u j)))/\∃v3,σ=[some (.ref p),some (.ref gv),some (.ref gs),some (.ref o),some (.ref z),some (.ref z'),v3]) ⟨(aA.refl _).but,by rw[List.range_zero,flatMap_nil,append_nil];exact Es,v3,rfl⟩ (λt σ Z _ q=>q.1.seq (aF.of hz5) (by simp[Br])) ?_ ?_⟩
   ·rintro v c σ H6 hv6 ⟨b6,ho6,v3,rfl⟩;obtain⟨c,rfl,hc6⟩:=jq hv6;have hvc:v<x.cols:=by
     have:=(List.getElem?_eq_some_iff.mp hc6).1;simpa using this
    rw[getElem?_map,getElem?_range hvc] at hc6;injection hc6 with hc6
    subst hc6;have hz6':=b6 _ _ hz5' (by simp[nzo']);have sH6:aA H H6:=λb u e=>b6 _ _ (sH5 _ _ e) (by simp[aW e no]);simp_arith! [Ge];refine⟨.inl ⟨rfl,_,aF.of ho6⟩,p,z',k,m,A,_,_,rfl,hA.same sH6,O,hm,aF.of hz6',by simp only[length_map,length_range];have:=hy.wf.c2;lia,hx.wf.dom O htr hvc,?_,λh2=>xM O hx.wf h2 _ (mem_of_getElem? (O1 hx.wf htr hvc)),λl H7 nl s7 hl=>?_⟩
    ·intro y' hy';obtain⟨j,hj,rfl⟩:=mem_map.mp hy';exact hy.wf.dom O hur (List.mem_range.mp hj)
    ·have el:(mV A y u).map (A.times (x.mean A t v))=L4 A x y t u v:=by
      show((range y.cols).map λj=>y.mean A u j).map _=_;rw[map_map];rfl
     rw[el] at hl;have nlo:l≠o:=λz=>by rw[z,ho6] at nl;cases nl
     have hb:=blk_bound hx.wf hy.wf (t:=t) (u:=u) (v:=v) (le_of_lt htr) (le_of_lt hur) (le_of_lt hvc);refine⟨o,l,_,_,rfl,rfl,s7 _ _ ho6,hl,by rw[gW,gW,Xr];exact le_of_lt (lt_of_le_of_lt hb yU),?_,?_,_,rfl⟩
     ·exact b6.trans (s7.but.trans But.wrote)
     ·rw[ao,Iv,Bv v,append_assoc]
   ·rintro σ H6 ⟨b6,ho6,v3,rfl⟩;refine⟨b5.trans b6,?_,_,_,rfl⟩;rw[ho6,gW,Bv u,append_assoc];simp only[length_map,length_range]
  ·rintro σ H5 ⟨b5,Es,v2,v3,rfl⟩;refine⟨b1.trans (s4.but.trans b5),?_,_,_,_,rfl⟩;rw[Es,length_map,hb,Bv t]
 ·rintro σ H3 ⟨b1,fM,v1,v2,v3,rfl⟩;ac_rfl;rw[length_map,ha] at fM;have SX:aA H H3:=λb u e=>b1 _ _ (s2 _ _ (s1 _ _ e)) (by simp[aW e no]);refine q2 _ o H3 ?_ SX fM;have e1:((range x.rows).flatMap λi=>Z2 A x y i)=tab (x.rows*y.rows) (x.cols*y.cols) λI J=>A.times (x.mean A (I/y.rows) (J/y.cols)) (y.mean A (I%y.rows) (J%y.cols)):=
   kron_tab x.rows x.cols y.rows y.cols λi i' j j'=>A.times (x.mean A i j) (y.mean A i' j')
  rw[e1];refine Ent.made O λi j hi hj=>Ar.dX O _ _ (hx.wf.dom O (div_lt_of_lt_mul (by rw[mul_comm];exact hi)) (div_lt_of_lt_mul (by rw[mul_comm];exact hj))) (hy.wf.dom O (mod_lt _ hy.wf.r1) (mod_lt _ hy.wf.c1))
theorem mul_ok {x y:Int}(h1:Builtin.Int.intBits x<=2000)(h2:Builtin.Int.intBits y<=2000):IntMulOk x y:=by
 unfold IntMulOk;have h:Builtin.Int.intTooBig ((Builtin.Int.intBits x:Int)+(Builtin.Int.intBits y:Int))=false:=by
  unfold Builtin.Int.intTooBig;refine decide_eq_false ?_;have:(4000:Int)<=(bitsLine:Nat):=by decide
  lia
 intro z;rw[and_eq_true] at z;have z:=z.2;have e:((Builtin.Int.intBits x+Builtin.Int.intBits y:Nat):Int)=(Builtin.Int.intBits x:Int)+(Builtin.Int.intBits y:Int):=by simp
 first
  |(rw[e] at z;rw[h] at z;cases z)
  |(rw[h] at z;cases z)
abbrev wl (l:List Nat):Prop:=∀x∈l,x<18446744073709551616
abbrev pkL (l:List Nat):Nat:=Ln.pk l.length λc=>l.getD c 0
inductive spBeside (K:Frag)(vs:List V)(H:Hp)(Q:VK)(E:XK):Prop where
 |mk (l:Addr) (ws:List Nat) (cI:vs=[.ref l]) (cJ:aF K H l (vN ws)) (cQ:wl ws) (dH:ws.length<=16) (fC:Q (.int (pkL ws:Nat)) H)
theorem Qi {ws:List Nat}(h:wl ws)(c:Nat):ws.getD c 0<18446744073709551616:=by
 rw[getD_eq_getElem?_getD];cases e:ws[c]? with
 |none=>exact(by decide:(0:Nat)<18446744073709551616)
 |some x=>exact h x (mem_of_getElem? e)
theorem or_n (u v:Nat):Builtin.bitOr (u:Int) (v:Int)=((u|||v:Nat):Int):=by
 rw[Bit.U0 (natCast_nonneg _) (natCast_nonneg _),toNat_natCast,toNat_natCast]
theorem O6 (u v:Nat):Builtin.bitXor (u:Int) (v:Int)=((u ^^^ v:Nat):Int):=by
 rw[Bit.Oa (natCast_nonneg _) (natCast_nonneg _),toNat_natCast,toNat_natCast]
theorem and_n (u v:Nat):Builtin.bitAnd (u:Int) (v:Int)=((u&&& v:Nat):Int):=by
 rw[Bit.Wk (natCast_nonneg _) (natCast_nonneg _),toNat_natCast,toNat_natCast]
theorem U6 {u k:Nat}(h:u<2^k):Builtin.Int.intBits (u:Int)<=k:=bits_le (by rw[Int.natAbs_natCast];exact h)
theorem qI (G:aU K mg a):bI P w K mg aq "beside_one_another" a.pZ 1 ["words"] (spBeside K):=G.Bb.bx λfd F=>by
 refine F.ok gY (λvs H Q E h=>?_) (λz A z s H vs Q E hr h=>?_)
 ·obtain⟨l,ws,rfl,_⟩:=h;rfl
 obtain⟨l,ws,rfl,hl,hw,qL,q⟩:=h;refine⟨_,(aC (aX 1 gY.nd au) (aC (fB PassesOwn.never rfl (Yq rfl G.b_reversed (bG aK)) (bM (i:=2) gY.nd rfl (Or.inl rfl)) (ak (aX 1 gY.nd (bD op_or (bD Jp aR (bL rfl G.Ax)) bf)))) (ak (aG aR)))),?_⟩;simp_arith! [eH];have e0:(vN ws).length=ws.length:=length_map ..;refine⟨l,_,rfl,hl,for_rev (K:=K) (a:=l) (xs:=vN ws) (λi σ Z=>Z=H/\i<=ws.length/\∃v,σ=[some (.ref l),some (.int (Ln.pk i λc=>ws.getD (ws.length-i+c) 0:Nat)),v]) ⟨rfl,zero_le _,none,rfl⟩ (λi σ Z q=>by rw[q.1];exact hl) ?_ ?_⟩
 ·rintro i v σ Z hi hv ⟨rfl,hi2,u,rfl⟩;obtain⟨x,rfl,hx⟩:=xu hv;rw[e0] at hi hx;have hx64:=hw x (mem_of_getElem? hx);have hb:Ln.pk i (λc=>ws.getD (ws.length-i+c) 0)<2^(65*i):=Ln.UL λc z=>lt_trans (Qi hw _) (by decide);ac_rfl;refine⟨⟨by decide,?_⟩,?_⟩
  ·have:=U6 hb;lia
  ·have e1:((Ln.pk i (λc=>ws.getD (ws.length-i+c) 0):Nat):Int)*2^(65:Int).toNat=((Ln.pk i (λc=>ws.getD (ws.length-i+c) 0)*36893488147419103232:Nat):Int):=by
    rw[natCast_mul];rfl
   refine⟨by lia,some (.int x),?_⟩;rw[e1,or_n,Ln.pk_or x (by lia)];have e2:Ln.pk (i+1) (λc=>ws.getD (ws.length-(i+1)+c) 0)=x+36893488147419103232*Ln.pk i (λc=>ws.getD (ws.length-i+c) 0):=by
    show ws.getD (ws.length-(i+1)+0) 0+36893488147419103232*Ln.pk i (λc=>ws.getD (ws.length-(i+1)+(c+1)) 0)=_;have e3:ws.getD (ws.length-(i+1)+0) 0=x:=by
     rw[getD_eq_getElem?_getD];have:ws.length-(i+1)+0=ws.length-1-i:=by lia
     rw[this,hx];rfl
    rw[e3]
    congr 2
    refine Ln.iW λc z=>?_
    congr 1;lia
   rw[e2]
 ·rintro σ Z ⟨rfl,_,u,rfl⟩;ac_rfl;rw[e0,Nat.sub_self];have e1:(Ln.pk ws.length λc=>ws.getD (0+c) 0)=pkL ws:=Ln.iW λc z=>by rw[Nat.zero_add]
  rw[e1];exact q
inductive spApart (vs:List V)(H:Hp)(Q:VK)(E:XK):Prop where
 |mk (n:Nat) (f:Nat->Nat) (cI:vs=[.int (Ln.pk n f:Nat),.int n]) (cJ:n<=16) (cQ:(∀c,c<n->f c<18446744073709551616)) (dH:∀D Z,H D=none->aA H Z->Z D=some (.aB (vN ((range n).map f)))->Q (.ref D) Z)
theorem Us (G:aU K mg a):bI P w K mg aq "taken_apart" a.Ed 1 ["lanes","count"] spApart:=G.Qz.bx λfd F=>by
 refine F.ok rF (λvs H Q E h=>?_) (λz A z s H vs Q E hr h=>?_)
 ·obtain⟨n,f,rfl,_⟩:=h;rfl
 obtain⟨n,f,rfl,n16,hf,q⟩:=h;refine⟨_,(ak (aG (lW (own:=[("lane",2)]) rfl rF.nd (lE rfl G.kW (bG aR)) (eG (N:=["lanes","count","lane"]) (sc:=bV (aM 8)) (by decide+kernel)) (λz z z z z=>(bM (i:=2) rF.nd rfl (Or.inl rfl))) (λz z z z z=>gj) (λz z z z z=>(bD vW (bD zZ aK (bD mZ (bL rfl G.Ax) bf)) (bL rfl G.Hl)))))),?_⟩;ac_rfl;refine⟨by lia,by lia,?_⟩;rw[toNat_natCast];refine lcR (λi=>V.int (f i:Nat)) (cD (by lia)) (λv=>rfl) ?_ ?_
 ·intro i Z N hi s1 hN;ac_rfl;have e0:(65:Int)*((0:Int)+(i:Int))=((65*i:Nat):Int):=by lia
  refine⟨.inl ⟨by lia,by lia⟩,by lia,?_⟩;have e1:((Ln.pk n f:Nat):Int)/2^(65*((0:Int)+(i:Int))).toNat=((Ln.pk n f/2^(65*i):Nat):Int):=by
   rw[e0,toNat_natCast];simp
  have e2:(18446744073709551615:Int)=((18446744073709551615:Nat):Int):=rfl;rw[e1,e2,and_n,Ln.pk_get hf hi];exact hN Z (aA.refl _)
 ·intro D Z nD s1 hD;refine q D Z nD s1 ?_;rw[hD];show _=some (HO.aB (((range n).map f).map λn:Nat=>V.int n));rw[map_map];rfl
inductive spPolyRow (K:Frag)(vs:List V)(H:Hp)(Q:VK)(E:XK):Prop where
 |mk (l1 l2:Addr) (k n m:Nat) (x:Nat->Nat) (y:Nat->Nat->Nat) (cI:vs=[.ref l1,.ref l2,.int (Ln.pk n λz=>1:Nat),.int m]) (cJ:aF K H l1 (vN ((range k).map x))) (cQ:aF K H l2 (vN ((range k).map λl=>Ln.pk n (y l)))) (dH:m<18446744073709551616) (fC:k<=16) (gF:n<=16) (iQ:(∀l c,l<k->c<n->y l c<18446744073709551616)) (kE:∀Z,aA H Z->Q (.int (Ln.pk n λc=>Ln.X k λl=>GridTalk.fieldTimes m (x l) (y l c):Nat)) Z)
theorem rT (G:aU K mg a):bI P w K mg aq "sum_of_polynomial_products" a.jK 1 ["row","lanes_of_rows","first_bits","modulus"] (spPolyRow K):=G.qK.bx λfd F=>by
 refine F.ok cB (λvs H Q E h=>?_) (λz A z s H vs Q E hr h=>?_)
 ·obtain⟨l1,l2,k,n,m,x,y,rfl,_⟩:=h;rfl
 obtain⟨l1,l2,k,n,m,x,y,rfl,h1,h2,hm,k16,n16,hy,q⟩:=h;refine⟨_,(aC (aX 4 cB.nd au) (aC (fB PassesOwn.never rfl (Rr rfl G.kW (bC (bD lF (bL rfl G.rQ) au) (bB (nM j5 au) (nM j5 au)))) (bM (i:=5) cB.nd rfl (Or.inl rfl)) (aC (aX 4 cB.nd (bD Jp cM au)) (aC (aX 4 cB.nd (bD pO cM (bD op_mulB (bD vW (bD zZ cM (bL rfl G.rQ)) bf) (bD pO (bL rfl G.JD) bF)))) (ak (fB PassesOwn.never rfl (sU rfl G.yJ (bB aK aR)) (FQ rfl (dZ (bM (i:=6) cB.nd rfl (Or.inl rfl)) (dZ (bM (i:=7) cB.nd rfl (Or.inl rfl)) lV))) (ak (cC (bY (dD (bD vW (bD zZ Cm iV) au) au)) (ak (aX 4 cB.nd (bD pO cM VB))) bN))))))) (ak (aG cM)))),?_⟩;simp_arith! [eH];have lt:∀i,i<=64->∀c,c<n->Ln.lane m k x y i c<18446744073709551616:=λi hi c hc=>Ln.lane_lt m k x y i c hm (λl hl=>hy l c hl hc) hi;refine⟨_,_,_,64,rfl,rg64,Nh (lo:=64-1) (c:= -1) (n:=64) (λi σ Z=>aA H Z/\∃v1 v2 v3,σ=[some (.ref l1),some (.ref l2),some (.int (Ln.pk n λz=>1:Nat)),some (.int m),some (.int (Ln.pk n (Ln.lane m k x y i):Nat)),v1,v2,v3]) ?_ ?_ ?_⟩
 ·refine⟨aA.refl _,none,none,none,?_⟩;have:Ln.pk n (Ln.lane m k x y 0)=0:=by
   have e:Ln.pk n (Ln.lane m k x y 0)=Ln.pk n λz=>0:=Ln.iW λc z=>by
    show Ln.X k (λl=>0)=0;clear h1 h2 q lt hy k16
    induction k with
    |zero=>rfl
    |succ k ih=>show Ln.X k _ ^^^ 0=0;rw[ih];rfl
   rw[e];clear h1 h2 q lt hy n16 e
   induction n with
   |zero=>rfl
   |succ n ih=>show 0+_*Ln.pk n _=0;rw[ih]
  rw[this];rfl
 ·rintro i σ Z hi ⟨s1,v1,v2,v3,rfl⟩;have hb:(64-1+(i:Int)* -1)=((63-i:Nat):Int):=by lia
  rw[hb];have hlt:Ln.pk n (Ln.lane m k x y i)<2^(65*n):=Ln.UL λc hc=>lt_trans (lt i (by lia) c hc) (by decide);have hlt1:(Ln.pk n λz=>1)<2^(65*n):=Ln.UL λc hc=>by decide
  simp_arith! [eH];have e1:((Ln.pk n (Ln.lane m k x y i):Nat):Int)*2^toNat 1=((Ln.pk n (Ln.lane m k x y i)*2:Nat):Int):=by
   show _*((2:Int)^1)=_;lia
  have e2:((Ln.pk n (Ln.lane m k x y i)*2:Nat):Int)/2^toNat 64=((Ln.pk n (Ln.lane m k x y i)*2/18446744073709551616:Nat):Int):=by
   show _/((18446744073709551616:Int))=_;simp
  have ew:(18446744073709551616:Int)=((18446744073709551616:Nat):Int):=rfl;have est:=Ln.pk_step m n (Ln.lane m k x y i) hm (λc hc=>lt i (by lia) c hc);refine⟨⟨by decide,?_⟩,by decide,?_,?_⟩
  ·have:=U6 hlt;lia
  ·rw[e1,e2,and_n,ew,O6];refine mul_ok ?_ ?_
   ·exact le_trans (U6 (k:=65*n) (lt_of_le_of_lt Nat.and_le_right hlt1)) (by lia)
   ·exact le_trans (U6 (k:=65) (xor_lt_two_pow (n:=65) (by decide) (by lia))) (by lia)
  ·rw[e1,e2,and_n,ew,O6, <-natCast_mul,O6,est];refine⟨l1,l2,_,_,rfl,s1.seq h1,s1.seq h2,Qe (K:=K) (a:=l1) (b:=l2) (xs:=vN ((range k).map x)) (ys:=vN ((range k).map λl=>Ln.pk n (y l))) (λj σ H2=>aA H H2/\∃v2 v3,σ=[some (.ref l1),some (.ref l2),some (.int (Ln.pk n λz=>1:Nat)),some (.int m),some (.int (Ln.pk n (λc=>Ln.Xs m (Ln.lane m k x y i c) ^^^ Ln.X j λl=>if (x l).testBit (63-i) then y l c else 0):Nat)),some (.int (63-i:Nat)),v2,v3]) ?_ (λj σ H2 q=>⟨q.1.seq h1,q.1.seq h2⟩) (by simp) ?_ ?_⟩
   ·refine⟨s1,v2,v3,?_⟩;have:(Ln.pk n λc=>Ln.Xs m (Ln.lane m k x y i c))=Ln.pk n λc=>Ln.Xs m (Ln.lane m k x y i c) ^^^ Ln.X 0 λl=>if (x l).testBit (63-i) then y l c else 0:=Ln.iW λc z=>by show _=_ ^^^ 0;rw[Nat.xor_zero]
    rw[this]
   ·rintro j u v σ H2 T hu hv ⟨s2,v2,v3,rfl⟩ nT;obtain⟨u,rfl,hu1⟩:=xu hu;obtain⟨v,rfl,hv1⟩:=xu hv;have hj:j<k:=by have:=(List.getElem?_eq_some_iff.mp hu1).1;simpa using this
    rw[getElem?_map,getElem?_range hj] at hu1 hv1;injection hu1 with hu1
    injection hv1 with hv1;subst hu1 hv1;refine⟨T,_,rfl,bR.of ao,rfl,_,_,rfl,_,_,rfl,rfl,?_⟩;have sT:aA H (aN H2 T (.tup [.int (x j:Nat),.int (Ln.pk n (y j):Nat)])):=s2.trans (aA.laid nT);generalize aN H2 T (.tup [.int (x j:Nat),.int (Ln.pk n (y j):Nat)])=H3 at sT⊢;ac_rfl;have e3:((63-i:Nat):Int).toNat=63-i:=toNat_natCast _;rw[e3,JG];have hlx:∀c,c<n->Ln.Xs m (Ln.lane m k x y i c) ^^^ (Ln.X j λl=>if (x l).testBit (63-i) then y l c else 0)<36893488147419103232:=λc hc=>
     lt_trans (Ln.xlt (Ln.Xs_lt m _ hm (lt i (by lia) c hc)) (Ln.Wc λl hl=>by show(if (x l).testBit (63-i) then y l c else 0)<_;split;exact hy l c (by lia) hc;decide)) (by decide)
    refine⟨by lia,?_⟩;cases hb:(x j).testBit (63-i) with
    |true=>
     rw[if_pos (by decide)];refine⟨sT,some (.int (x j:Nat)),some (.int (Ln.pk n (y j):Nat)),?_⟩;rw[O6,Ln.Wb hlx λc hc=>lt_trans (hy j c hj hc) (by decide)];have:(Ln.pk n λc=>(Ln.Xs m (Ln.lane m k x y i c) ^^^ Ln.X j λl=>if (x l).testBit (63-i) then y l c else 0) ^^^ y j c)=Ln.pk n λc=>Ln.Xs m (Ln.lane m k x y i c) ^^^ Ln.X (j+1) λl=>if (x l).testBit (63-i) then y l c else 0:=Ln.iW λc z=>by
      show _=_ ^^^ (_ ^^^ (if (x j).testBit (63-i) then y j c else 0));rw[hb,if_pos rfl,Nat.xor_assoc]
     rw[this]
    |false=>
     rw[if_neg (by decide)];refine⟨sT,some (.int (x j:Nat)),some (.int (Ln.pk n (y j):Nat)),?_⟩;have:(Ln.pk n λc=>Ln.Xs m (Ln.lane m k x y i c) ^^^ Ln.X j λl=>if (x l).testBit (63-i) then y l c else 0)=Ln.pk n λc=>Ln.Xs m (Ln.lane m k x y i c) ^^^ Ln.X (j+1) λl=>if (x l).testBit (63-i) then y l c else 0:=Ln.iW λc z=>by
      show _=_ ^^^ (_ ^^^ (if (x j).testBit (63-i) then y j c else 0));rw[hb];simp
     rw[this]
   ·rintro σ H2 ⟨s2,v2,v3,rfl⟩;refine⟨s2,some (.int (63-i:Nat)),v2,v3,?_⟩;have:(Ln.pk n λc=>Ln.Xs m (Ln.lane m k x y i c) ^^^ Ln.X (vN ((range k).map x)).length λl=>if (x l).testBit (63-i) then y l c else 0)=Ln.pk n (Ln.lane m k x y (i+1)):=Ln.iW λc hc=>by
     rw[Ln.lane_step m k x y i c hm (λl hl=>hy l c hl hc) hi];simp
    rw[this]
 ·rintro σ Z ⟨s1,v1,v2,v3,rfl⟩;ac_rfl;have:Ln.pk n (Ln.lane m k x y 64)=Ln.pk n λc=>Ln.X k λl=>GridTalk.fieldTimes m (x l) (y l c):=Ln.iW λc hc=>Ln.lane_end m k x y c hm λl hl=>hy l c hl hc;rw[this];exact q Z s1
abbrev rN (n:Nat)(f:Nat->Nat):List V:=vN ((range n).map f)
theorem rN_len (n:Nat)(f:Nat->Nat):(rN n f).length=n:=by simp
theorem Xu {n:Nat}{f:Nat->Nat}(h:∀c,c<n->f c<18446744073709551616):wl ((range n).map f):=by
 intro x hx;obtain⟨c,hc,rfl⟩:=mem_map.mp hx;exact h c (List.mem_range.mp hc)
theorem S5 (n:Nat)(f:Nat->Nat):pkL ((range n).map f)=Ln.pk n f:=by
 unfold pkL;rw[length_map,length_range];refine Ln.iW λc hc=>?_;rw[getD_eq_getElem?_getD,getElem?_map,getElem?_range hc];rfl
inductive spRows (a:Ad)(vs:List V)(H:Hp)(Q:VK)(E:XK):Prop where
 |mk (D D':Addr) (as bs:List Addr) (r k n m:Nat) (x y:Nat->Nat->Nat) (cI:vs=[.ref D,.ref D',.int m]) (cJ:H D=some (.aB (as.map V.ref))) (cQ:H D'=some (.aB (bs.map V.ref))) (dH:as.length=r) (fC:bs.length=k) (gF:1<=k) (iQ:r<=16) (kE:k<=16) (ud:n<=16) (Bm:m<18446744073709551616) (zP:(∀i p,as[i]? =some p->H p=some (.aB (rN k (x i))))) (Ii:(∀l p,bs[l]? =some p->H p=some (.aB (rN n (y l))))) (Xd:(∀l c,l<k->c<n->y l c<18446744073709551616)) (h13_:∀o Z,aA H Z->Z o=some (.aB (vN (tab r n λi c=>Ln.X k λl=>GridTalk.fieldTimes m (x i l) (y l c))))->Q (.ref o) Z)
theorem Kf (G:aU K mg a):bI P w K mg aq "product_of_rows" a.uX 2 ["rows","other_rows","modulus"] (spRows a):=G.Hw.bx λfd F=>by
 refine F.ok dF (λvs H Q E h=>?_) (λp A p s H vs Q E hr h=>?_)
 ·obtain⟨D,D',as,bs,r,k,n,m,x,y,rfl,_⟩:=h;rfl
 obtain⟨D,D',as,bs,r,k,n,m,x,y,rfl,hD,hD',ha,hb,k1,r16,k16,n16,hm,hx,hy,hyl,q⟩:=h;refine⟨_,(aC (aX 3 dF.nd (cF bU (by rfl) G.fX PySem.boot_len (bG (aJ aH aR au))))
   (aC (Ci (i:=4) (own:=[("row",7)]) rfl dF.nd rfl rfl (Ji rfl rfl rfl rfl) (fj aR) (eG (N:=["rows","other_rows","modulus","width","lanes_of_rows","first_bits","entries","row","total"]) (sc:=bV (aM 10)) (by decide+kernel)) (λp p p p p=>(bM (i:=7) dF.nd rfl (Or.inl rfl))) (λp p p p p=>gj) (λp p p p p=>(aD (qI G) (bG VB))))
   (aC (aX 5 dF.nd (aD (qI G) (bG (bD Nb (bK (bG au)) bF)))) (aC (aX 6 dF.nd (bK dM)) (aC (fB PassesOwn.never rfl (fj aK) (bM (i:=7) dF.nd rfl (Or.inl rfl)) (aC (aX 8 dF.nd (aD (rT G) (bC VB (bC cM (bB iV bf))))) (ak (eZ (iZ plainAttrs_list slot_list_extend type_list_extend lG Cm (bG (aD (Us G) (bB pq_8 bF)))))))) (ak (aG Cm))))))),?_⟩
 ac_rfl;obtain⟨b0,hb0⟩:∃b0,bs[0]? =some b0:=⟨bs[0]'(by lia),getElem?_eq_getElem (by lia)⟩;refine aL (aF.of hD') (bQ (by rw[getElem?_map,hb0];rfl)) ⟨b0,_,rfl,.inl (aF.of (hy 0 b0 hb0)),?_⟩;rw[rN_len];refine⟨D',rfl,⟨_,aF.of hD'⟩,RB (λl=>V.int (Ln.pk n (y l):Nat)) (aF.of hD') (by rw[length_map];exact cD (by lia)) (λv=>rfl) ?_ ?_⟩
 ·intro l v Z N hl s1 hN;rw[getElem?_map] at hl;obtain⟨z,hz,rfl⟩:=map_eq_some_iff.mp hl;have hlk:l<k:=by have:=(List.getElem?_eq_some_iff.mp hz).1;lia
  ac_rfl;refine⟨z,_,rfl,aF.of (s1 _ _ (hy l z hz)),Xu λc hc=>hyl l c hlk hc,by simp;lia,?_⟩;rw[S5];exact hN Z (aA.refl _)
 ·intro L H1 nL s1 hL;rw[length_map,hb] at hL;have hL':H1 L=some (.aB (rN k λl=>Ln.pk n (y l))):=by
   rw[hL];show _=some (HO.aB (((range k).map λl=>Ln.pk n (y l)).map λn:Nat=>V.int n));rw[map_map];rfl
  ac_rfl;refine⟨by decide,λl1 nl1=>⟨l1,_,_,rfl,rfl,ao,by lia,by lia,by rw[toNat_natCast];exact le_of_lt (cD (by simp;lia)),λl2 nl2=>?_⟩⟩;rw[toNat_natCast,O5];have s2:aA H1 (aN (aN H1 l1 (.aB [.int 1])) l2 (.aB (replicate n (.int 1)))):=(aA.laid nl1).trans (aA.laid nl2);have hl2:aN (aN H1 l1 (.aB [.int 1])) l2 (.aB (replicate n (.int 1))) l2=some (.aB (rN n λp=>1)):=by
   rw[ao];show _=some (HO.aB (((range n).map λp=>1).map λn:Nat=>V.int n));rw[map_map]
   congr 2
   show _=(range n).map λp=>V.int 1;rw[List.map_const',length_range]
  generalize aN (aN H1 l1 (.aB [.int 1])) l2 (.aB (replicate n (.int 1)))=H2 at s2 hl2⊢;refine⟨l2,_,rfl,aF.of hl2,Xu λc hc=>by decide,by simp;lia,?_⟩;rw[S5];simp_arith! [eH];refine⟨zero_le _,λo no=>?_⟩;have s3:aA H (aN H2 o (.aB [])):=s1.trans (s2.trans (aA.laid no));have ho:aN H2 o (.aB []) o=some (.aB []):=ao;have hL3:aN H2 o (.aB []) L=some (.aB (rN k λl=>Ln.pk n (y l))):=(aA.laid no) _ _ (s2 _ _ hL');have lU:H o=none:=s1.free (s2.free no);generalize aN H2 o (.aB [])=H3 at s3 ho hL3⊢;have nLo:L≠o:=λz=>by have:=s2 _ _ hL';rw[z,no] at this;cases this
  have Er:D≠o:=aW hD lU;refine⟨D,rfl,⟨_,aF.of (s3 _ _ hD)⟩,iU (K:=K) (a:=D) (xs:=as.map V.ref) (λt σ Z=>But [o] H3 Z/\Z o=some (.aB (vN ((range t).flatMap λi=>(range n).map λc=>Ln.X k λl=>GridTalk.fieldTimes m (x i l) (y l c))))/\∃v1 v2,σ=[some (.ref D),some (.ref D'),some (.int m),some (.int n),some (.ref L),some (.int (Ln.pk n λp=>1:Nat)),some (.ref o),v1,v2]) ⟨(aA.refl _).but,ho,none,none,rfl⟩ (λt σ Z _ q=>q.1.seq (aF.of (s3 _ _ hD)) (by simp[Er])) ?_ ?_⟩
  ·rintro t v σ H4 ht ⟨b4,dR,v1,v2,rfl⟩;rw[getElem?_map] at ht;obtain⟨z,hz,rfl⟩:=map_eq_some_iff.mp ht;have htr:t<r:=by have:=(List.getElem?_eq_some_iff.mp hz).1;lia
   have hz0:=hx t z hz;have Br:z≠o:=aW hz0 lU;have Xv:=b4 _ _ (s3 _ _ hz0) (by simp[Br]);have hL4:=b4 _ _ hL3 (by simp[nLo]);simp_arith! [Ge];refine⟨z,L,k,n,m,x t,y,rfl,aF.of Xv,aF.of hL4,hm,k16,n16,hyl,λH5 s5=>?_⟩;ac_rfl;refine⟨.inl ⟨rfl,_,aF.of (s5 _ _ dR)⟩,n,_,rfl,n16,λc hc=>Ln.Wc λl hl=>Poly.VP m _ _,λl H6 nl s6 hl=>?_⟩;have nlo:l≠o:=λz=>by rw[z,s5 _ _ dR] at nl;cases nl
   have hlen:((range t).flatMap λi=>(range n).map λc=>Ln.X k λl=>GridTalk.fieldTimes m (x i l) (y l c)).length+n<=100000:=by
    rw[dB,iR];have:=mul_le_mul (show t<=16 by lia) n16;lia
   refine⟨o,l,_,_,rfl,rfl,s6 _ _ (s5 _ _ dR),hl,by simp only[length_map,length_range] at hlen⊢;exact le_of_lt (lt_of_le_of_lt hlen yU),?_,?_,_,_,rfl⟩
   ·exact b4.trans (s5.but.trans (s6.but.trans But.wrote))
   ·rw[ao,Bv t];show some (HO.aB (map _ _++map _ _))=_;rw[<-map_append]
  ·rintro σ H4 ⟨b4,dR,v1,v2,rfl⟩;ac_rfl;rw[length_map,ha,dB] at dR;exact q o H4 (λb u e=>b4 _ _ (s3 _ _ e) (by simp[aW e lU])) dR
def xU (k:Nat)(A:Arith)(x y:Mat)(i j:Nat):Int:=tot k A ((range x.cols).map λl=>A.times (x.mean A i l) (y.mean A l j))
theorem cross_dom {k m:Nat}{A:Arith}(O:arith k m=some A){x y:Mat}(hx:Vl.WF A x)(hy:Vl.WF A y)(e:x.cols=y.rows){i j:Nat}(hi:i<x.rows)(hj:j<y.cols):
  ∀z∈(range x.cols).map λl=>A.times (x.mean A i l) (y.mean A l j),Ar.Dom k z:=by
 intro z hz;obtain⟨l,hl,rfl⟩:=mem_map.mp hz;have hl:=List.mem_range.mp hl;exact Ar.dX O _ _ (hx.dom O hi hl) (hy.dom O (by lia) hj)
theorem tot_rz {k m:Nat}{A:Arith}(O:arith k m=some A){ns:List Int}(hd:∀z∈ns,Ar.Dom k z):Rz k A (tot k A ns) (A.total ns):=by
 by_cases h3:k=3
 ·subst h3;rcases Ar.cV O with⟨e,_⟩|⟨e,_⟩|⟨e,_⟩|⟨_,rfl,rfl⟩|⟨e,_⟩|⟨e,_⟩|⟨e,_⟩|⟨e,_⟩<;>first|(exact absurd e (by decide))|skip
  have eT:TOP=18446744073709551615:=by decide
  obtain⟨f1,f2,f3⟩:=Ih TOP ns;have key:∀z,(ns=[]/\z=18446744073709551615\/z∈ns/\∀y∈ns,z<=y)->Ar.Dom 3 z/\min (ns.foldr min TOP) TOP=min z TOP:=by
   intro z hz;constructor
   ·rcases hz with⟨rfl,rfl⟩|⟨h1,h2⟩
    ·exact Ar.rC.mpr (by decide)
    ·exact hd z h1
   ·rcases hz with⟨rfl,rfl⟩|⟨h1,h2⟩
    ·rw[eT];rfl
    ·have a1:=f2 z h1;rcases f3 with f3|f3
     ·lia
     ·have:=h2 _ f3;lia
  have hz:ns=[]/\tot 3 {GridTalk.lanes (λ(x y:Int)=>min x y) (λ(x y:Int)=>x+y) TOP 0 none with word:=λ(z:Int)=>some (min z TOP).toNat} ns=18446744073709551615\/tot 3 {GridTalk.lanes (λ(x y:Int)=>min x y) (λ(x y:Int)=>x+y) TOP 0 none with word:=λ(z:Int)=>some (min z TOP).toNat} ns∈ns/\∀y∈ns,tot 3 {GridTalk.lanes (λ(x y:Int)=>min x y) (λ(x y:Int)=>x+y) TOP 0 none with word:=λ(z:Int)=>some (min z TOP).toNat} ns<=y:=by
   cases ns with
   |nil=>exact .inl ⟨rfl,rfl⟩
   |cons x r=>
    obtain⟨g1,g2,g3⟩:=foldl_min r x;refine .inr ⟨?_,λy hy=>?_⟩
    ·show r.foldl min x∈x::r;rcases g1 with g1|g1
     ·rw[g1];exact mem_cons_self
     ·exact mem_cons_of_mem _ g1
    ·show r.foldl min x<=y;rcases mem_cons.mp hy with rfl|hy
     ·exact g2
     ·exact g3 y hy
  obtain⟨k1,k2⟩:=key _ hz;refine⟨k1,?_,λh=>absurd rfl h⟩;show some (min _ TOP).toNat=some (min (ns.foldr min TOP) TOP).toNat;rw[k2]
 ·rw[nG h3];exact Rz.of (m:=0) (Vl.oZ O ns hd)
theorem Iw {k m:Nat}{A:Arith}(O:arith k m=some A){x y:Mat}(hx:Vl.WF A x)(hy:Vl.WF A y)(e:x.cols=y.rows){i j:Nat}(hi:i<x.rows)(hj:j<y.cols):Rz k A (xU k A x y i j) (GridTalk.cross A x y i j):=
 tot_rz O (cross_dom O hx hy e hi hj)
theorem zip_rows {A:Arith}{x y:Mat}{i j:Nat}(e:x.cols=y.rows):zipWith A.times (mV A x i) ((range y.rows).map λl=>y.mean A l j)=(range x.cols).map λl=>A.times (x.mean A i l) (y.mean A l j):=by
 rw[<-e];show zipWith A.times ((range x.cols).map _) ((range x.cols).map _)=_;rw[List.zipWith_map]
 induction range x.cols with
 |nil=>rfl
 |cons a l ih=>rw[List.zipWith_cons_cons,ih,map_cons]
inductive spEP (a:Ad)(vs:List V)(H:Hp)(Q:VK)(E:XK):Prop where
 |mk (p qx qy:Addr) (k m:Nat) (A:Arith) (x y:Mat) (cI:vs=[.ref p,.ref qx,.ref qy]) (cJ:dO a H p k m) (cQ:arith k m=some A) (dH:m<18446744073709551616) (fC:MG a A H qx x) (gF:MG a A H qy y) (iQ:x.cols=y.rows) (kE:∀D Z,aA H Z->Z D=some (.aB (vI (tab x.rows y.cols (xU k A x y))))->Q (.ref D) Z)
theorem X_fold (f:Nat->Nat):∀n,((Ln.X n f:Nat):Int)=((range n).map λl=>((f l:Nat):Int)).foldl (bits xor) 0
 |0=>rfl
 |n+1=>by
  rw[range_succ,map_append,foldl_append, <-X_fold f n];show((Ln.X n f ^^^ f n:Nat):Int)=bits xor _ _;unfold bits;rw[toNat_natCast,toNat_natCast];rfl
theorem jZ (G:aU K mg a):bI P w K mg aq "entries_of_product" a.p8 4 ["arithmetic","x","y"] (spEP a):=G.Bc.bx λfd F=>by
 refine F.ok eE (λvs H Q E h=>?_) (λr A r s H vs Q E hr h=>?_)
 ·obtain⟨p,qx,qy,k,m,A,x,y,rfl,_⟩:=h;rfl
 obtain⟨p,qx,qy,k,m,A,x,y,rfl,hA,O,hm,hx,hy,hxy,q⟩:=h;refine⟨_,(aC (cC (bY (dD (aQ aK rfl) (bL rfl G.nA))) (ak (aG (aD (Kf G) (bC (aD (jt G) (bG aR)) (bB (aD (jt G) (bG bf)) (aQ aK rfl)))))) bN) (aC (aX 3 eE.nd (aD (Il G) (bG bf))) (aC (aX 4 eE.nd (bK dM)) (aC (fB PassesOwn.never rfl (fj (aD (jt G) (bG aR))) (bM (i:=5) eE.nd rfl (Or.inr rfl)) (ak (eZ (iZ plainAttrs_list slot_list_extend type_list_extend lG cM (bG (lW (own:=[("column",6)]) rfl eE.nd (fj bF) (eG (N:=["arithmetic","x","y","columns","entries","row","column"]) (sc:=bV (aM 69)) (by decide+kernel)) (λr r r r r=>(bM (i:=6) eE.nd rfl (Or.inl rfl))) (λr r r r r=>gj) (λr r r r r=>(aD (u9 G) (bC aK (bB iV Cm))))))))))
   (ak (aG cM)))))),?_⟩
 simp_arith! [eH,jN G hA];by_cases h7:k=7
 ·rw[if_pos (by lia)];refine jw G hx λD H1 as nD s1 hD ha hp=>jw G (hy.same s1) λD' H2 bs nD' s2 hD' hb hp'=>?_;simp_arith! [qz G ((hA.same s1).same s2)];subst h7;rcases Ar.cV O with⟨e,_⟩|⟨e,_⟩|⟨e,_⟩|⟨e,_⟩|⟨e,_⟩|⟨e,_⟩|⟨e,_⟩|⟨_,m2,rfl⟩<;>first|(exact absurd e (by decide))|skip
  have er:∀(M:Mat) (i:Nat),vI (mV (GridTalk.lanes (bits xor) (bits (GridTalk.fieldTimes m)) 0 1 (some (bits xor))) M i)=rN M.cols (M.at_ i):=by
   intro M i;show((range M.cols).map _).map V.int=((range M.cols).map _).map _;rw[map_map,map_map];rfl
  refine⟨D,D',as,bs,x.rows,x.cols,y.cols,m,λi l=>x.at_ i l,λl c=>y.at_ l c,rfl,s2 _ _ hD,hD',ha,by rw[hb,hxy],hx.wf.c1,hx.wf.r2,hx.wf.c2,hy.wf.c2,m2,λi p hi=>?_,λl p hl=>?_,λl c hl hc=>(hy.wf.at_ (by lia) hc).1,λo H3 s3 ho=>?_⟩
  ·rw[<-er];exact s2 _ _ (hp i p hi).2.2
  ·rw[<-er];exact(hp' l p hl).2.2
  ·refine q o H3 (s1.trans (s2.trans s3)) ?_;rw[ho]
   congr 2
   show(tab _ _ _).map _=(tab _ _ _).map _;rw[rE,rE];refine pD λi j hi hj=>?_
   congr 1
   unfold xU;rw[nG (by decide),Ar.pR O,X_fold]
   congr 1
 ·rw[if_neg (by lia)];obtain⟨ey,hGy,hey⟩:=hy.ex;rw[ju hy.wf,Bo] at hey;refine⟨qy,ey,y.rows,y.cols,_,rfl,hGy,hey,iR _ _ _,hy.wf.r1,hy.wf.c1,hy.wf.r2,hy.wf.c2,λC H1 cs nC s1 hC hc hpc=>?_⟩;have hc:cs.length=y.cols:=hc;refine⟨zero_le _,λo no=>?_⟩;have s2:aA H1 (aN H1 o (.aB [])):=aA.laid no;have ho:aN H1 o (.aB []) o=some (.aB []):=ao;have lU:H o=none:=s1.free no;have nCo:C≠o:=aW hC no;generalize aN H1 o (.aB [])=H2 at s2 ho⊢;refine jw G ((hx.same s1).same s2) λD H3 as nD s3 hD ha hp=>?_;have fM:=s3 _ _ ho;have Er:D≠o:=λz=>by rw[z,ho] at nD;cases nD
  refine⟨D,rfl,⟨_,aF.of hD⟩,iU (K:=K) (a:=D) (xs:=as.map V.ref) (λt σ Z=>But [o] H3 Z/\Z o=some (.aB (vI ((range t).flatMap λi=>(range y.cols).map λj=>xU k A x y i j)))/\∃v1 v2,σ=[some (.ref p),some (.ref qx),some (.ref qy),some (.ref C),some (.ref o),v1,v2]) ⟨(aA.refl _).but,fM,none,none,rfl⟩ (λt σ Z _ q=>q.1.seq (aF.of hD) (by simp[Er])) ?_ ?_⟩
  ·rintro t v σ H4 ht ⟨b4,dR,v1,v2,rfl⟩;rw[getElem?_map] at ht;obtain⟨z,hz,rfl⟩:=map_eq_some_iff.mp ht;obtain⟨htr,nz,hz2⟩:=hp t z hz;have Br:z≠o:=λe=>by rw[e,ho] at nz;cases nz
   have Xv:=b4 _ _ hz2 (by simp[Br]);have hC4:=b4 _ _ (s3 _ _ (s2 _ _ hC)) (by simp[nCo]);have sH4:aA H H4:=λb u e=>b4 _ _ (s3 _ _ (s2 _ _ (s1 _ _ e))) (by simp[aW e lU]);simp_arith! [Ge];refine⟨.inl ⟨rfl,_,aF.of dR⟩,C,rfl,⟨_,aF.of hC4⟩,RB (λj=>V.int (xU k A x y t j)) (aF.of hC4) (by rw[length_map,hc];exact cD (by have:=hy.wf.c2;lia)) (λv=>rfl) ?_ ?_⟩
   ·intro j u Z N hu s5 hN;rw[getElem?_map] at hu;obtain⟨c,hc2,rfl⟩:=map_eq_some_iff.mp hu;obtain⟨ncc,hcc⟩:=hpc j c hc2;have hjc:j<y.cols:=by
     have:=(List.getElem?_eq_some_iff.mp hc2).1;have hc':cs.length=y.cols:=hc;lia
    have nco:c≠o:=λe=>by rw[e,no] at hcc;cases hcc
    have ec:Ik y.rows y.cols (tab y.rows y.cols λi j=>V.int (y.mean A i j)) j=vI ((range y.rows).map λl=>y.mean A l j):=by
     unfold Ik;rw[ZC hjc];show _=((range y.rows).map λt=>y.mean A t j).map V.int;rw[map_map];rfl
    rw[ec] at hcc;have hc5:=s5 _ _ (b4 _ _ (s3 _ _ (s2 _ _ hcc)) (by simp[nco]));ac_rfl;refine⟨p,z,c,k,m,A,mV A x t,_,rfl,(hA.same sH4).same s5,O,hm,aF.of (s5 _ _ Xv),aF.of hc5,by simp;exact hxy,by simp;have:=hx.wf.c2;lia,?_,?_,λh2 u hu=>?_,λzz H6 he r s6=>?_⟩
    ·intro u hu;obtain⟨l,hl,rfl⟩:=mem_map.mp hu;exact hx.wf.dom O htr (List.mem_range.mp hl)
    ·intro u hu;obtain⟨l,hl,rfl⟩:=mem_map.mp hu;exact hy.wf.dom O (List.mem_range.mp hl) hjc
    ·obtain⟨l,hl,rfl⟩:=mem_map.mp hu;exact xM O hx.wf h2 _ (mem_of_getElem? (O1 hx.wf htr (List.mem_range.mp hl)))
    ·rw[zip_rows hxy] at he;rw[he];exact hN H6 s6
   ·intro l H5 nl s5 hl;rw[length_map] at hl;have hl':H5 l=some (.aB (vI ((range y.cols).map λj=>xU k A x y t j))):=by
     rw[hl];have hc':cs.length=y.cols:=hc;rw[hc'];show _=some (HO.aB (((range y.cols).map λj=>xU k A x y t j).map V.int));rw[map_map];rfl
    have hlen:((range t).flatMap λi=>(range y.cols).map λj=>xU k A x y i j).length+y.cols<=100000:=by
     rw[dB,iR];have a1:=hx.wf.r2;have a2:=hy.wf.c2;have:=mul_le_mul (show t<=16 by lia) a2;lia
    refine⟨o,l,_,_,rfl,rfl,s5 _ _ dR,hl',by rw[gW,gW,length_map,length_range];exact le_of_lt (lt_of_le_of_lt hlen yU),?_,?_,_,_,rfl⟩
    ·exact b4.trans (s5.but.trans But.wrote)
    ·rw[ao,Iv,Bv t]
  ·rintro σ H4 ⟨b4,dR,v1,v2,rfl⟩;ac_rfl;rw[length_map,ha,dB] at dR;exact q o H4 (λb u e=>b4 _ _ (s3 _ _ (s2 _ _ (s1 _ _ e))) (by simp[aW e lU])) dR
def Bw (a:Ad)(H:Hp)(A:Arith)(t:Option Mat)(Q:VK):Prop:=(t=none->∀Z,aA H Z->Q .non Z)/\∀M q Z,t=some M->H q=none->aA H Z->MG a A Z q M->Q (.ref q) Z
theorem Xw {k m:Nat}{A:Arith}(O:arith k m=some A){x y:Mat}(hx:Vl.WF A x)(hy:Vl.WF A y)(e:x.cols=y.rows):Ent k A x.rows y.cols (tab x.rows y.cols (xU k A x y)) (GridTalk.product A 0 x y).toOption:=
 Ent.madeW O (λi j hi hj=>(Iw O hx hy e hi hj).d) λi j hi hj=>(Iw O hx hy e hi hj).w
inductive spSP (a:Ad)(vs:List V)(H:Hp)(Q:VK)(E:XK):Prop where
 |mk (p qx qy:Addr) (k m:Nat) (A:Arith) (x y:Mat) (cI:vs=[.ref p,.ref qx,.ref qy]) (cJ:dO a H p k m) (cQ:arith k m=some A) (dH:m<18446744073709551616) (fC:MG a A H qx x) (gF:MG a A H qy y) (iQ:x.cols=y.rows) (kE:Bw a H A (GridTalk.product A 0 x y).toOption Q)
theorem mW (G:aU K mg a):bI P w K mg aq "settled_product" a.uZ 5 ["arithmetic","x","y"] (spSP a):=G.HB.bx λfd F=>by
 have jO:=@xK P w K mg aq a G;refine F.ok GF (λvs H Q E h=>?_) (λz A z s H vs Q E hr h=>?_)
 ·obtain⟨p,qx,qy,k,m,A,x,y,rfl,_⟩:=h;rfl
 obtain⟨p,qx,qy,k,m,A,x,y,rfl,hA,O,hm,hx,hy,hxy,q1,q2⟩:=h;obtain⟨ex,hGx,_⟩:=hx.ex;obtain⟨ey,hGy,_⟩:=hy.ex;refine⟨_,(ak (aG (aD (yM G) (bB aK (iC jO (bC (aQ aR rfl) (bB (aQ bf rfl) (aD (jZ G) (bC aK (bB aR bf)))))))))),?_⟩;simp_arith! [oO G hGx,mz G hGy];refine⟨p,qx,qy,k,m,A,x,y,rfl,hA,O,hm,hx,hy,hxy,λD H1 s1 hD=>?_⟩;ac_rfl;refine rR (h:=x.rows) (c:=y.cols) rfl rfl λg2 H2 ng s2 lR=>?_;ac_rfl;have hd:=Xw O hx.wf hy.wf hxy;refine⟨p,g2,D,k,m,x.rows,y.cols,A,_,rfl,(hA.same s1).same s2,O,lR,s2 _ _ hD,hd.d,hd.len,hx.wf.r1,hx.wf.r2,hy.wf.c1,hy.wf.c2,λhn Z s3=>q1 (by rw[<-hd.w];exact hn) Z (s1.trans (s2.trans s3)),λU q Z hU h1 h2 nq s3 yV=>q2 U q Z (by rw[<-hd.w];exact hU) (s1.free (s2.free nq)) (s1.trans (s2.trans s3)) yV⟩
theorem d_product (G:aU K mg a):bI P w K mg aq "product" a.G8 5 ["arithmetic","given","grids"]
  (iK a (λz z g Ms=>∃x y,Ms=[x,y]/\x.cols=y.rows) (λz Ms=>((M0 Ms).rows,(M1 Ms).cols)) λA z Ms=>(GridTalk.twoValue A 0 .prod (M0 Ms) (M1 Ms)).toOption):=G.fn_product.bx λfd F=>by
 refine F.ok sc_product dI (λz A z s H vs Q E hr h=>?_);obtain⟨p,gv,gs,k,m,A,given,qs,Ms,rfl,hA,O,hm,hv,hg,hM,⟨x,y,rfl,hxy⟩,q1,q2⟩:=h;cases hM with
 |cons hx eU=>
 cases eU with
 |cons hy uq=>
 cases uq;rename_i qx qy;refine⟨_,(ak (aG (aD (jZ G) (bC aK (bB (aJ aH bf au) (aJ aH bf au)))))),?_⟩;ac_rfl;refine aL (aF.of hg) (bQ rfl) (aL (aF.of hg) (cT rfl) ⟨p,qx,qy,k,m,A,x,y,rfl,hA,O,hm,hx,hy,hxy,λD H1 s1 hD=>q2 _ D H1 (Xw O hx.wf hy.wf hxy) s1 hD⟩)
theorem S6 {k m:Nat}{A:Arith}(O:arith k m=some A)(n:Nat):∃U,∀p,made A p n n (unitAt A)=.ok U:=by
 by_cases h2:k=2
 ·subst h2;rcases Ar.cV O with⟨e,_⟩|⟨e,_⟩|⟨_,rfl,rfl⟩|⟨e,_⟩|⟨e,_⟩|⟨e,_⟩|⟨e,_⟩|⟨e,_⟩<;>first|(exact absurd e (by decide))|skip
  have key:∀l:List Nat,∃r,allOf (λt=>({GridTalk.plain (λ(z:Int)=>if-(HALF:Int)<=z/\z<(HALF:Int) then some (z%(WORD:Int)).toNat else none) (λy=>true) with mean:=signed}:Arith).word (unitAt {GridTalk.plain (λ(z:Int)=>if-(HALF:Int)<=z/\z<(HALF:Int) then some (z%(WORD:Int)).toNat else none) (λy=>true) with mean:=signed} (t/n) (t%n))) l=some r:=by
   intro l
   induction l with
   |nil=>exact⟨[],rfl⟩
   |cons t l ih=>
    obtain⟨r,hr⟩:=ih;have hw:∃w,({GridTalk.plain (λ(z:Int)=>if-(HALF:Int)<=z/\z<(HALF:Int) then some (z%(WORD:Int)).toNat else none) (λy=>true) with mean:=signed}:Arith).word (unitAt {GridTalk.plain (λ(z:Int)=>if-(HALF:Int)<=z/\z<(HALF:Int) then some (z%(WORD:Int)).toNat else none) (λy=>true) with mean:=signed} (t/n) (t%n))=some w:=by
     unfold unitAt;split
     ·exact⟨1,by decide⟩
     ·exact⟨0,by decide⟩
    obtain⟨w,hw⟩:=hw;exact⟨w::r,by rw[cZ.d7,hw,hr];rfl⟩
  obtain⟨l,hl⟩:=key (range (n*n));exact⟨⟨n,n,rowsOf n n l⟩,λp=>by rw[cZ.tu,hl]⟩
 ·exact⟨_,λp=>Pw.tE O h2 p n⟩
theorem O7 {A:Arith}{p:Nat}{x:Mat}{i:Nat}(h:(raised A p x i).toOption=none):∀j,(raised A p x (i+j)).toOption=none
 |0=>h
 |j+1=>by
  have ih:=O7 h j
  show(match raised A p x (i+j) with| .ok z=>GridTalk.product A p z x| .error f=>.error f).toOption=none
  cases e:raised A p x (i+j) with
  |ok z=>rw[e] at ih;cases ih
  |error f=>rfl
theorem S7 {A:Arith}{p:Nat}{x:Mat}{i:Nat}(h:(stage A p x i).toOption=none):∀j,(stage A p x (i+j)).toOption=none
 |0=>h
 |j+1=>by
  have ih:=S7 h j
  show(match stage A p x (i+j) with| .ok s=>made A p x.rows x.rows λ(i j:Nat)=>A.plus (unitAt A i j) (GridTalk.cross A x s i j)| .error f=>.error f).toOption=none
  cases e:stage A p x (i+j) with
  |ok z=>rw[e] at ih;cases ih
  |error f=>rfl
inductive spPow (a:Ad)(C:Nat->Prop)(vs:List V)(H:Hp)(Q:VK)(E:XK):Prop where
 |mk (p q:Addr) (k m e:Nat) (A:Arith) (x:Mat) (cI:vs=[.ref p,.ref q,.int e]) (cJ:dO a H p k m) (cQ:arith k m=some A) (dH:m<18446744073709551616) (fC:MG a A H q x) (gF:x.rows=x.cols) (iQ:e<=64) (kE:C k) (ud:Bw a H A (raised A 0 x e).toOption Q)
theorem DK (G:aU K mg a):bI P w K mg aq "power_step_by_step" a.qb 6 ["arithmetic","x","exponent"] (spPow a λy=>True):=G.Bd.bx λfd F=>by
 refine F.ok gZ (λvs H Q E h=>?_) (λy A y s H vs Q E hr h=>?_)
 ·obtain⟨p,q,k,m,e,A,x,rfl,_⟩:=h;rfl
 obtain⟨p,q,k,m,e,A,x,rfl,hA,O,hm,hx,mJ,he,_,q1,q2⟩:=h;refine⟨_,(aC (aX 3 gZ.nd (aD (zQ G) (bB aK aR))) (aC (fB PassesOwn.never rfl (lE rfl G.kW (bG bf)) (bM (i:=4) gZ.nd rfl (Or.inl rfl)) (aC (aX 3 gZ.nd (aD (mW G) (bC aK (bB bF aR)))) (ak (cC (bY (sI bF)) (ak (aG mX)) bN)))) (ak (aG bF)))),?_⟩;simp_arith! [eH];obtain⟨U,hU⟩:=S6 O x.rows;refine⟨p,q,k,m,A,x,rfl,hA,O,hx,mJ,λhn=>(by rw[hU 0] at hn;cases hn),λU' u H1 hU' ur uc nu s1 Et=>?_⟩;have hU0:U'=U:=by rw[hU 0] at hU';injection hU' with hU';exact hU'.symm
 subst hU0;ac_rfl;refine⟨by lia,by lia,?_⟩;rw[toNat_natCast];refine yc (n:=e) (λi σ Z=>aA H Z/\∃(R:Mat) (r:Addr) (v:Option V),raised A 0 x i=.ok R/\R.rows=x.rows/\R.cols=x.rows/\MG a A Z r R/\H r=none/\σ=[some (.ref p),some (.ref q),some (.int e),some (.ref r),v]) ?_ ?_ ?_
 ·exact⟨s1,U',u,none,hU 0,ur,uc,Et,nu,rfl⟩
 ·rintro i σ Z hi ⟨s2,R,r,v,hR,rr,rc,S8,nr,rfl⟩;ac_rfl;refine⟨p,r,q,k,m,A,R,x,rfl,hA.same s2,O,hm,S8,hx.same s2,by lia,λhn H3 s3=>?_,λM z H3 hM nz s3 Eu=>?_⟩
  ·ac_rfl;simp_arith! [mL];rw[if_pos trivial];refine q1 ?_ H3 (s2.trans s3);have h1:(raised A 0 x (i+1)).toOption=none:=by
    show(match raised A 0 x i with| .ok z=>GridTalk.product A 0 z x| .error f=>.error f).toOption=none
    rw[hR];exact hn
   have h2:=O7 h1 (e-(i+1));have e1:i+1+(e-(i+1))=e:=Nat.add_sub_of_le (by lia);rw[e1] at h2;exact h2
  ·ac_rfl;simp_arith! [mL];rw[if_neg (by intro z;cases z)];have hp:GridTalk.product A 0 R x=.ok M:=by
    cases e:GridTalk.product A 0 R x with
    |ok z=>rw[e] at hM;injection hM with hM;rw[hM]
    |error f=>rw[e] at hM;cases hM
   obtain⟨m1,m2,_⟩:=Vl.vm O S8.wf hx.wf (by lia) hp;refine⟨s2.trans s3,M,z,_,?_,by lia,by lia,Eu,s2.free nz,rfl⟩
   show(match raised A 0 x i with| .ok z=>GridTalk.product A 0 z x| .error f=>.error f)=.ok M
   rw[hR];exact hp
 ·rintro σ Z ⟨s2,R,r,v,hR,rr,rc,S8,nr,rfl⟩;ac_rfl;exact q2 R r Z (by rw[hR];rfl) nr s2 S8
theorem Iz (G:aU K mg a):bI P w K mg aq "power_by_squares" a.tK 6 ["arithmetic","x","exponent"] (spPow a λk=>k≠2):=G.Fl.bx λfd F=>by
 refine F.ok gB (λvs H Q E h=>?_) (λy A y s H vs Q E hr h=>?_)
 ·obtain⟨p,q,k,m,e,A,x,rfl,_⟩:=h;rfl
 obtain⟨p,q,k,m,e,A,x,rfl,hA,O,hm,hx,mJ,he,h2,q1,q2⟩:=h;refine⟨_,(aC (aX 3 gB.nd (aD (zQ G) (bB aK aR))) (aC (qU PassesOwn.never (bY (Mw bf au)) (aC (cC (bY (dD (bD zY bf au) au)) (ak (aX 3 gB.nd (aD (mW G) (bC aK (bB bF aR))))) bN) (aC (aX 1 gB.nd (aD (mW G) (bC aK (bB aR aR)))) (ak (aX 2 gB.nd (bD YZ bf au)))))) (ak (aG bF)))),?_⟩;ac_rfl;have hSx:Pw.Sq A x.rows x:=⟨rfl,mJ.symm,hx.wf⟩;have hU:=Pw.tE O h2 0 x.rows;refine⟨p,q,k,m,A,x,rfl,hA,O,hx,mJ,λhn=>(by rw[hU] at hn;cases hn),λU' u H1 hU' ur uc nu s1 Et=>?_⟩;have hU0:U'=Pw.unit A x.rows:=by rw[hU] at hU';injection hU' with hU';exact hU'.symm
 subst hU0;ac_rfl;refine qW (λσ Z=>aA H Z/\∃(R X:Mat) (r z:Addr) (n:Nat),Pw.Sq A x.rows R/\Pw.Sq A x.rows X/\Pw.mul A R (Pw.pow A x.rows X n)=Pw.pow A x.rows x e/\MG a A Z r R/\MG a A Z z X/\H r=none/\σ=[some (.ref p),some (.ref z),some (.int n),some (.ref r)])
  (λσ _=>match σ with|[_,_,some (.int n),_]=>n.toNat|_=>0) ?_ ?_ ?_
 ·exact⟨s1,_,x,u,q,e,⟨ur,uc,Et.wf⟩,hSx,Pw.V5 O h2 (Pw.Gy O h2 hSx e),Et,hx.same s1,nu,rfl⟩
 ·rintro σ Z ⟨s2,R,X,r,z,n,hR,hX,hinv,S8,hMX,nr,rfl⟩;ac_rfl;have hRX:∀(Y:Mat),Pw.Sq A x.rows Y->∀Q:VK,(∀g H3,Z g=none->aA Z H3->MG a A H3 g (Pw.mul A Y X)->Q (.ref g) H3)->Bw a Z A (GridTalk.product A 0 Y X).toOption Q:=by
   intro Y hY Q hq;have hp:=Pw.m8 O h2 0 Y X;refine⟨λhn=>(by rw[hp] at hn;cases hn),λM g H3 hM ng s3 Eu=>?_⟩;rw[hp] at hM;injection hM with hM
   subst hM;exact hq g H3 ng s3 Eu
  by_cases hn:0<n
  ·rw[if_pos (by lia)];refine⟨by decide,?_⟩;have sq:∀(H3:Hp) (hH:aA Z H3) (Q:VK),(∀g H4,H3 g=none->aA H3 H4->MG a A H4 g (Pw.mul A X X)->Q (.ref g) H4)->Bw a H3 A (GridTalk.product A 0 X X).toOption Q:=by
    intro H3 hH Q hq;have hp:=Pw.m8 O h2 0 X X;refine⟨λhn=>(by rw[hp] at hn;cases hn),λM g H4 hM ng s3 Eu=>?_⟩;rw[hp] at hM;injection hM with hM
    subst hM;exact hq g H4 ng s3 Eu
   by_cases hodd:n%2=1
   ·rw[if_pos (by lia)];refine⟨p,r,z,k,m,A,R,X,rfl,hA.same s2,O,hm,S8,hMX,by rw[hR.c,hX.r],hRX R hR _ λg H3 ng s3 hMg=>?_⟩;ac_rfl;refine⟨p,z,z,k,m,A,X,X,rfl,(hA.same s2).same s3,O,hm,hMX.same s3,hMX.same s3,by rw[hX.c,hX.r],sq H3 s3 _ λg2 H4 ng2 s4 hMg2=>?_⟩;ac_rfl;refine⟨⟨by decide,by decide⟩,⟨s2.trans (s3.trans s4),_,_,g,g2,n/2,Pw.j6 O h2 hR hX,Pw.j6 O h2 hX hX,?_,hMg.same s4,hMg2,s2.free ng,?_⟩,?_⟩
    ·rw[Pw.mul_assoc O h2 hR hX (Pw.Gy O h2 (Pw.j6 O h2 hX hX) _), <-Pw.pow_odd O h2 hX];have:2*(n/2)+1=n:=by lia
     rw[this];exact hinv
    ·simp
    ·show((n:Int)/2).toNat<(n:Int).toNat;lia
   ·rw[if_neg (by lia)];refine⟨p,z,z,k,m,A,X,X,rfl,hA.same s2,O,hm,hMX,hMX,by rw[hX.c,hX.r],sq Z (aA.refl _) _ λg2 H4 ng2 s4 hMg2=>?_⟩;ac_rfl;refine⟨⟨by decide,by decide⟩,⟨s2.trans s4,_,_,r,g2,n/2,hR,Pw.j6 O h2 hX hX,?_,S8.same s4,hMg2,nr,?_⟩,?_⟩
    ·rw[<-Pw.Cv O h2 hX];have:2*(n/2)=n:=by lia
     rw[this];exact hinv
    ·simp
    ·show((n:Int)/2).toNat<(n:Int).toNat;lia
  ·rw[if_neg (by lia)];have hn0:n=0:=by lia
   subst hn0;have hinv:Pw.mul A R (Pw.unit A x.rows)=Pw.pow A x.rows x e:=hinv;rw[Pw.V6 O h2 hR] at hinv;ac_rfl;refine q2 R r Z ?_ nr s2 S8;rw[Pw.NT O h2 hSx 0 e,hinv];rfl
 ·intro σ Z Q Q' hQ hc;obtain⟨v,hv,i,j,e1,e2,c,e3,q'⟩:=hc;exact⟨v,hv,i,j,e1,e2,c,e3,hQ _ _ q'⟩
theorem Ent.self {k m:Nat}{A:Arith}(O:arith k m=some A){M:Mat}(h:Vl.WF A M){r c:Nat}(hr:M.rows=r)(hc:M.cols=c):Ent k A r c (ms A M) (some M):=by
 subst hr hc;refine⟨nH O h,gC h,?_⟩;unfold ms;rw[yL O (qF h).2.2]
 congr 1
 exact(ZP h).symm
theorem toOpt_some {α:Type}{e:Except Nat α}{z:α}(h:e.toOption=some z):e=.ok z:=by
 cases e with
 |ok y=>injection h with h;rw[h]
 |error f=>cases h
theorem d_power (G:aU K mg a):bI P w K mg aq "power" a.Qt 7 ["arithmetic","given","grids"]
  (iK a (λy y g Ms=>∃e x,g=[e]/\Ms=[x]/\x.rows=x.cols/\e<=64) (λy Ms=>((M0 Ms).rows,(M0 Ms).cols)) λA g Ms=>(GridTalk.oneValue A 0 (.power (g.getD 0 0)) (M0 Ms)).toOption):=G.fn_power.bx λfd F=>by
 refine F.ok Li dI (λy A y s H vs Q E hr h=>?_);obtain⟨p,gv,gs,k,m,A,given,qs,Ms,rfl,hA,O,hm,hv,hg,hM,⟨e,x,rfl,rfl,mJ,he⟩,q1,q2⟩:=h;cases hM with
 |cons hx eU=>
 cases eU;rename_i qx;refine⟨_,(aC (cC (iG (aD (Uo G) (bG aK))) (ak (aX 3 Li.nd (aD (Iz G) (bC aK (bB (aJ aH bf au) (aJ aH aR au)))))) (ak (aX 3 Li.nd (aD (DK G) (bC aK (bB (aJ aH bf au) (aJ aH aR au))))))) (ak (aG (iB (bY (sI bF)) mX (aQ bF rfl))))),?_⟩;ac_rfl;refine⟨p,k,m,A,rfl,hA,O,_,rfl,?_⟩;have fin:Bw a H A (raised A 0 x e).toOption λv H1=>(if v=V.non then Q .non H1 else gn K "entries" v H1 Q):=by
  refine⟨λhn Z s1=>?_,λM z Z hM nz s1 Eu=>?_⟩
  ·show if V.non=V.non then Q .non Z else _;rw[if_pos rfl];exact q1 hn Z s1
  ·show if V.ref z=V.non then _ else gn K "entries" (.ref z) Z Q;rw[if_neg (by intro z;cases z)];obtain⟨ee,hG,hee⟩:=Eu.ex;rw[cU G hG];obtain⟨w1,w2,_⟩:=Vl.Gv O hx.wf mJ e M (toOpt_some hM);have hE:=Ent.self O Eu.wf w1 (w2.trans mJ);rw[<-hM] at hE;exact q2 _ ee Z hE s1 hee
 by_cases h2:k≠2
 ·rw[decide_eq_true h2];rw[if_pos rfl];refine aL (aF.of hg) (bQ rfl) (aL (aF.of hv) (bQ rfl) ⟨p,qx,k,m,e,A,x,rfl,hA,O,hm,hx,mJ,he,h2,?_⟩);simp_arith! [mL];exact fin
 ·rw[decide_eq_false h2];rw[if_neg (by decide)];refine aL (aF.of hg) (bQ rfl) (aL (aF.of hv) (bQ rfl) ⟨p,qx,k,m,e,A,x,rfl,hA,O,hm,hx,mJ,he,trivial,?_⟩);simp_arith! [mL];exact fin
theorem stage_word {k m:Nat}{A:Arith}(O:arith k m=some A){x S U:Mat}(hx:Vl.WF A x)(hS:Vl.WF A S)(mJ:x.rows=x.cols)(sr:S.rows=x.rows)(sc:S.cols=x.rows)(hU:made A 0 x.rows x.rows (unitAt A)=.ok U)(wU:Vl.WF A U)(ur:U.rows=x.rows)(uc:U.cols=x.rows){i j:Nat}(hi:i<x.rows)(hj:j<x.rows):
  A.word (A.plus (U.mean A i j) (xU k A x S i j))=A.word (A.plus (unitAt A i j) (GridTalk.cross A x S i j)):=by
 have hu:=Pw.Qj hU hi hj;have hw:=wU.at_ (i:=i) (j:=j) (by lia) (by lia);have hm:=Pw.pA O hw.1 hw.2;have rz:=Iw O hx hS (by lia) hi (show j<S.cols by lia);by_cases h2:k=2
 ·have e1:=rz.e (by lia);rw[e1];have e2:U.mean A i j=unitAt A i j:=by
   subst h2;rcases Ar.cV O with⟨e,_⟩|⟨e,_⟩|⟨_,rfl,rfl⟩|⟨e,_⟩|⟨e,_⟩|⟨e,_⟩|⟨e,_⟩|⟨e,_⟩<;>first|(exact absurd e (by decide))|skip
   unfold Mat.mean;unfold unitAt at hu⊢;by_cases hij:i=j
   ·rw[if_pos hij] at hu⊢;have:some 1=some (U.at_ i j):=hu;injection this with this
    rw[<-this];rfl
   ·rw[if_neg hij] at hu⊢;have:some 0=some (U.at_ i j):=hu;injection this with this
    rw[<-this];rfl
  rw[e2]
 ·have L:=Pw.laws O h2;exact L.cp (wU.dom O (by lia) (by lia)) (Vl.oG O i j) rz.d (Vl.Gu O hx hS (by lia) hi (by lia)) (hm.trans hu.symm) rz.w
theorem d_closure (G:aU K mg a):bI P w K mg aq "closure" a.G7 6 ["arithmetic","given","grids"]
  (iK a (λv v g Ms=>∃x,Ms=[x]/\x.rows=x.cols) (λv Ms=>((M0 Ms).rows,(M0 Ms).cols)) λA g Ms=>(GridTalk.oneValue A 0 .closure (M0 Ms)).toOption):=G.fn_closure.bx λfd F=>by
 have jO:=@xK P w K mg aq a G;refine F.ok jW dI (λv A v s H vs Q E hr h=>?_);obtain⟨p,gv,gs,k,m,A,given,qs,Ms,rfl,hA,O,hm,hv,hg,hM,⟨x,rfl,mJ⟩,q1,q2⟩:=h;cases hM with
 |cons hx eU=>
 cases eU;rename_i qx;have q1:(stage A 0 x (x.rows-1)).toOption=none->∀Z,aA H Z->Q .non Z:=q1;refine⟨_,(aC (aX 3 jW.nd (aJ aH bf au))
   (aC (aX 4 jW.nd (aD (zQ G) (bB aK bF))) (aC (aX 5 jW.nd cM) (aC (fB PassesOwn.never rfl (lE rfl G.kW (bG (bD lF (aQ bF rfl) au))) (bM (i:=6) jW.nd rfl (Or.inl rfl)) (aC (aX 7 jW.nd (aD (d_sums G) (bC aK (bB (aQ cM rfl) (aD (jZ G) (bC aK (bB bF iV))))))) (aC (aX 5 jW.nd (aD (yM G) (bB aK (iC jO (bC (aQ bF rfl) (bB (aQ bF rfl) VB)))))) (ak (cC (bY (sI iV)) (ak (aG mX)) bN))))) (ak (aG (aQ iV rfl))))))),?_⟩
 simp_arith! [eH];refine aL (aF.of hg) (bQ rfl) ?_;obtain⟨U,hU⟩:=S6 O x.rows;refine⟨p,qx,k,m,A,x,rfl,hA,O,hx,mJ,λhn=>(by rw[hU 0] at hn;cases hn),λU' u H1 hU' ur uc nu s1 Et=>?_⟩;have hU0:U'=U:=by rw[hU 0] at hU';injection hU' with hU';exact hU'.symm
 subst hU0;obtain⟨ex,hGx,hex⟩:=hx.ex;obtain⟨eu,hGu,heu⟩:=Et.ex;simp_arith! [oO G (hGx.same s1)];have hr1:=hx.wf.r1;have hr2:=hx.wf.r2;refine⟨by lia,by lia,?_⟩;have en:((x.rows:Int)-1).toNat=x.rows-1:=Int.toNat_sub _ 1;rw[en];refine yc (n:=x.rows-1) (λi σ Z=>aA H1 Z/\∃(S:Mat) (z:Addr) (v1 v2:Option V),stage A 0 x i=.ok S/\S.rows=x.rows/\S.cols=x.rows/\MG a A Z z S/\σ=[some (.ref p),some (.ref gv),some (.ref gs),some (.ref qx),some (.ref u),some (.ref z),v1,v2]) ?_ ?_ ?_
 ·exact⟨aA.refl _,U',u,none,none,hU 0,ur,uc,Et,rfl⟩
 ·rintro i σ H2 hi ⟨s2,S,z,v1,v2,hS,sr,sc,Xx,rfl⟩;have s12:=s1.trans s2;simp_arith! [cU G (hGu.same s2)];refine⟨p,qx,z,k,m,A,x,S,rfl,hA.same s12,O,hm,hx.same s12,Xx,by lia,λD H3 s3 hD=>?_⟩;ac_rfl;have s13:=s12.trans s3;have heu3:=s3 _ _ (s2 _ _ heu);have lenU:(ms A U').length=x.rows*x.rows:=by rw[gC Et.wf,ur,uc]
  have ht:(tab x.rows S.cols (xU k A x S)).length=x.rows*x.rows:=by rw[iR,sc]
  have Ij:x.rows*x.rows<=256:=by have:=mul_le_mul hr2 hr2;lia
  have hdc:∀y∈tab x.rows S.cols (xU k A x S),Ar.Dom k y:=Ai λi j hi hj=>(Iw O hx.wf Xx.wf (by lia) hi hj).d;refine⟨p,eu,D,k,m,A,_,_,rfl,hA.same s13,O,hm,aF.of heu3,aF.of hD,by rw[lenU,ht],by rw[lenU];lia,nH O Et.wf,hdc,λv v v v=>trivial,λD2 H4 nD2 s4 hD2=>?_⟩;have ez:zipWith A.plus (ms A U') (tab x.rows S.cols (xU k A x S))=tab x.rows x.rows λi j=>A.plus (U'.mean A i j) (xU k A x S i j):=by
   rw[ju Et.wf,ur,uc,sc,Jy]
  rw[ez] at hD2;have S9:=s13.trans s4;simp_arith! [oO G (hGx.same S9),mz G (hGx.same S9)];refine rR (h:=x.rows) (c:=x.cols) rfl rfl λg2 H5 ng s5 hG5=>?_;rw[<-mJ] at hG5;ac_rfl;have hE:Ent k A x.rows x.rows (tab x.rows x.rows λi j=>A.plus (U'.mean A i j) (xU k A x S i j)) (made A 0 x.rows x.rows λi j=>A.plus (unitAt A i j) (GridTalk.cross A x S i j)).toOption:=
   Ent.madeW O (λi j hi hj=>Ar.jU O _ _ (Et.wf.dom O (by lia) (by lia)) (Iw O hx.wf Xx.wf (by lia) hi (by lia)).d) λi j hi hj=>stage_word O hx.wf Xx.wf mJ sr sc (hU 0) Et.wf ur uc hi hj
  have est:stage A 0 x (i+1)=made A 0 x.rows x.rows λi j=>A.plus (unitAt A i j) (GridTalk.cross A x S i j):=by
   show(match stage A 0 x i with| .ok s=>made A 0 x.rows x.rows λ(i j:Nat)=>A.plus (unitAt A i j) (GridTalk.cross A x s i j)| .error f=>.error f)=_
   rw[hS]
  refine⟨p,g2,D2,k,m,x.rows,x.rows,A,_,rfl,hA.same (S9.trans s5),O,hG5,s5 _ _ hD2,hE.d,hE.len,hr1,hr2,hr1,hr2,λhn H6 s6=>?_,λM zz H6 hM hMr hMc nz s6 Eu=>?_⟩
  ·ac_rfl;simp_arith! [mL];rw[if_pos trivial];refine q1 ?_ H6 (S9.trans (s5.trans s6));rw[hE.w] at hn;have h1:(stage A 0 x (i+1)).toOption=none:=by rw[est];exact hn
   have h2:=S7 h1 (x.rows-1-(i+1));have e1:i+1+(x.rows-1-(i+1))=x.rows-1:=Nat.add_sub_of_le (by lia);rw[e1] at h2;exact h2
  ·ac_rfl;simp_arith! [mL];rw[if_neg (by intro z;cases z)];rw[hE.w] at hM;exact⟨s2.trans (s3.trans (s4.trans (s5.trans s6))),M,zz,_,_,by rw[est];exact toOpt_some hM,hMr,hMc,Eu,rfl⟩
 ·rintro σ H2 ⟨s2,S,z,v1,v2,hS,sr,sc,Xx,rfl⟩;obtain⟨es,hGs,hes⟩:=Xx.ex;simp_arith! [cU G hGs];have hE:=Ent.self O Xx.wf sr (sc.trans mJ);refine q2 _ es H2 ?_ (s1.trans s2) hes;have:(stage A 0 x (x.rows-1)).toOption=some S:=by rw[hS];rfl
  show Ent k A x.rows x.cols (ms A S) (stage A 0 x (x.rows-1)).toOption;rw[this];exact hE
def Tc (s:Nat):Nat:=if s=0 then 0 else s.log2+1
def abv (s lo:Nat):Nat:=((Dt.mem s).filter λo=>decide (lo<=o)).length
theorem abv_eq:∀s,s<64->∀lo,lo<=6->((range (Tc s-lo)).filter λi=>s.testBit (lo+i)).length=abv s lo:=by decide+kernel
theorem bl_le:∀s,s<64->Tc s<=6:=by decide+kernel
theorem intBits_N (s:Nat):Builtin.Int.intBits (s:Int)=Tc s:=by
 unfold Builtin.Int.intBits Tc;by_cases h:s=0
 ·subst h;rfl
 ·have h':¬((s:Int) == 0)=true:=by simp;lia
  rw[if_neg h]
  first
   |rw[if_neg h',Int.natAbs_natCast]
   |(rw[if_neg (by lia),Int.natAbs_natCast])
   |(simp[h])
theorem oE {xs:List V}{t:Nat}{v:V}(h:xs[t-1]? =some v)(hl:xs.length=t)(h1:1<=t):vX xs (-1)=some v:=by
 unfold vX M8;rw[hl,if_neg (by decide),if_pos (by lia)];have:((-1:Int)+(t:Int)).toNat=t-1:=by rw[Int.add_comm];exact Int.toNat_sub t 1
 show xs[((-1:Int)+(t:Int)).toNat]? =some v;rw[this];exact h
inductive spAbove (vs:List V)(H:Hp)(Q:VK)(E:XK):Prop where
 |mk (s lo:Nat) (c:Int) (cI:vs=[.int s,.int c]) (cJ:c+1=(lo:Int)) (cQ:s<64) (dH:lo<=6) (fC:∀D Z acc,H D=none->aA H Z->Z D=some (.aB acc)->acc.length=abv s lo->Q (.ref D) Z)
theorem yW (G:aU K mg a):bI P w K mg aq "members_above" a.yF 1 ["members","column"] spAbove:=G.LQ.bx λfd F=>by
 refine F.ok oH (λvs H Q E h=>?_) (λy A y s H vs Q E hr h=>?_)
 ·obtain⟨s,lo,c,rfl,_⟩:=h;rfl
 obtain⟨z,lo,c,rfl,hc,hs,hlo,q⟩:=h;refine⟨_,(ak (aG (lW (own:=[("other",2)]) rfl oH.nd (pi_range2 rfl G.kW (bB (bD jD aR au) (pe_bm0 PySem.F.plainAttrs_int PySem.F.slot_int_bit_length PySem.F.type_int_bit_length mt_bitlen aK))) (eG (N:=["members","column","other"]) (sc:=bV (aM 75)) (by decide+kernel)) (λy y y y y=>(bM (i:=2) oH.nd rfl (Or.inl rfl))) (λy y y y y=>(pts_one (bY (dD (bD vW (bD zZ aK bf) au) au)))) (λy y y y y=>bf)))),?_⟩;ac_rfl;have hb:=bl_le z hs;refine⟨rfl,z,rfl,rfl,_,_,rfl,?_⟩;rw[intBits_N];refine⟨⟨by lia,by lia,by lia,by lia⟩,?_⟩;have en:((Tc z:Int)-(c+1)).toNat=Tc z-lo:=by rw[hc];exact Int.toNat_sub _ _
 rw[hc] at*;rw[show((Tc z:Int)-(lo:Int)).toNat=Tc z-lo by lia];intro D nD;refine K8 (λi Z=>aA H Z/\∃acc,Z D=some (.aB acc)/\acc.length=((range i).filter λi=>z.testBit (lo+i)).length) ⟨aA.laid nD,[],by rw[ao],rfl⟩ ?_ ?_
 ·rintro i Z hi ⟨s1,acc,hD,ha⟩;refine⟨rfl,?_⟩;ac_rfl;have e1:((lo:Int)+(i:Int)).toNat=lo+i:=by lia
  rw[e1,JG];refine⟨by lia,?_⟩;have hle:((range i).filter λi=>z.testBit (lo+i)).length<=i:=by
   have:=List.length_filter_le (λi=>z.testBit (lo+i)) (range i);rw[length_range] at this;exact this
  cases hb2:z.testBit (lo+i) with
  |true=>
   rw[if_pos (by decide)];refine⟨acc,hD,cD (by lia),?_,acc++[.int ((lo:Int)+(i:Int))],ao,?_⟩
   ·intro b o e;rw[aO (aW e nD)];exact s1 _ _ e
   ·rw[length_append,ha,range_succ,List.filter_append,length_append];simp[hb2]
  |false=>
   rw[if_neg (by decide)];refine⟨s1,acc,hD,?_⟩;rw[ha,range_succ,List.filter_append,length_append];simp[hb2]
 ·rintro Z ⟨s1,acc,hD,ha⟩;rw[abv_eq z hs lo hlo] at ha;exact q D Z acc nD s1 hD ha
theorem abv_above:∀s,s<64->∀c,c<6->abv s (c+1)=Dt.above s c:=by decide+kernel
theorem abv_all:∀s,s<64->abv s 0=(Dt.mem s).length:=by decide+kernel
theorem bit_lt:∀s,s<64->∀c,c<6->s.testBit c=true->s ^^^ (1<<<c)<s:=by decide+kernel
theorem mC (A:Arith)(f:Nat->Nat->Int)(d:Nat->Int)(n s:Nat)(b:Bool)(i:Nat):Dt.parts A f d n s b (i+1)=Dt.parts A f d n s b i++(if (s.testBit i&&((Dt.above s i%2 == 0) == b))=true then[A.times (d (s ^^^ (1<<<i))) (f ((Dt.mem s).length-1) i)] else[]):=by
 unfold Dt.parts;rw[range_succ,List.filter_append,map_append]
 congr 1
 by_cases h:(s.testBit i&&((Dt.above s i%2 == 0) == b))=true
 ·rw[if_pos h,List.filter_cons_of_pos (by exact h)];rfl
 ·rw[if_neg h,List.filter_cons_of_neg (by exact h)];rfl
theorem Td (A:Arith)(f:Nat->Nat->Int)(d:Nat->Int)(n s:Nat)(b:Bool)(i:Nat):(Dt.parts A f d n s b i).length<=i:=by
 unfold Dt.parts;rw[length_map];have:=List.length_filter_le (λc=>s.testBit c&&((Dt.above s c%2 == 0) == b)) (range i);rw[length_range] at this;exact this
structure Dets (k:Nat)(A:Arith)(x:Mat)(d:Nat->Int):Prop where
 n6:x.rows<=6
 sq:x.rows=x.cols
 mi:A.minus.isSome=true
 d0:d 0=A.one
 dom:∀s,s<2^x.rows->Ar.Dom k (d s)
 rec_:∀s,0<s->s<2^x.rows->A.less (A.total (Dt.parts A (x.mean A) d x.rows s true x.rows)) (A.total (Dt.parts A (x.mean A) d x.rows s false x.rows))=d s
theorem minus_ne3 {k m:Nat}{A:Arith}(O:arith k m=some A)(h:A.minus.isSome=true):k≠3:=by
 rintro rfl;rcases Ar.cV O with⟨e,_⟩|⟨e,_⟩|⟨e,_⟩|⟨_,rfl,rfl⟩|⟨e,_⟩|⟨e,_⟩|⟨e,_⟩|⟨e,_⟩<;>first|(exact absurd e (by decide))|cases h
inductive spMinor (a:Ad)(vs:List V)(H:Hp)(Q:VK)(E:XK):Prop where
 |mk (p lr lm:Addr) (k m s:Nat) (A:Arith) (x:Mat) (d:Nat->Int) (cI:vs=[.ref p,.ref lr,.int s,.ref lm]) (cJ:dO a H p k m) (cQ:arith k m=some A) (dH:m<18446744073709551616) (fC:Vl.WF A x) (gF:Dets k A x d) (iQ:0<s) (kE:s<2^x.rows) (ud:H lr=some (.aB (vI (mV A x ((Dt.mem s).length-1))))) (Bm:H lm=some (.aB (vI ((range s).map d)))) (zP:∀Z,aA H Z->Q (.int (d s)) Z)
theorem d_minor (G:aU K mg a):bI P w K mg aq "minor" a.ZF 3 ["arithmetic","row","members","minors"] (spMinor a):=G.fn_minor.bx λfd F=>by
 refine F.ok rJ (λvs H Q E h=>?_) (λu A u s H vs Q E hr h=>?_)
 ·obtain⟨p,lr,lm,k,m,s,A,x,d,rfl,_⟩:=h;rfl
 obtain⟨p,lr,lm,k,m,z,A,x,d,rfl,hA,O,hm,hx,hD,z0,zn,hlr,hlm,q⟩:=h;have h64:2^x.rows<=64:=Nat.pow_le_pow_right (n:=2) (by lia) hD.n6;have hml:=Dt.Jw x.rows hD.n6 z zn;have hmp:=Dt.Jv z (by lia) z0;refine⟨_,(aC (aX 4 rJ.nd (bK dM))
   (aC (aX 5 rJ.nd (bK dM)) (aC (fB PassesOwn.never rfl (pi_enum rfl G.YF (bG aR)) (FQ rfl (dZ (bM (i:=6) rJ.nd rfl (Or.inl rfl)) (dZ (bM (i:=7) rJ.nd rfl (Or.inl rfl)) lV))) (ak (cC (bY (dD (bD vW (bD zZ bf Cm) au) au)) (aC (aX 8 rJ.nd (aD (vU G) (bC aK (bB (aJ aH bF (bD pO bf (bD Jp au Cm)) (λu u=>rfl)) VB)))) (ak (cC (bY (dD (bD zY (cF bU (by rfl) G.fX PySem.boot_len (bG (aD (yW G) (bB bf Cm)))) au) au)) (ak (eZ (iZ plainAttrs_list PySem.F.slot_list_append PySem.F.type_list_append gK cM (bG pq_8)))) (ak (eZ (iZ plainAttrs_list PySem.F.slot_list_append PySem.F.type_list_append gK iV (bG pq_8))))))) bN)))
   (ak (aG (aD (JH G) (bC aK (bB (aD (xG G) (bB aK cM)) (aD (xG G) (bB aK iV)))))))))),?_⟩
 simp_arith! [eH];refine⟨zero_le _,λev nev=>⟨zero_le _,λod nod=>?_⟩⟩;have s0:aA H (aN (aN H ev (.aB [])) od (.aB [])):=(aA.laid nev).trans (aA.laid nod);have neo:ev≠od:=λe=>by rw[<-e,ao] at nod;cases nod
 have nod0:H od=none:=by rw[aO (Ne.symm neo)] at nod;exact nod
 have hev:aN (aN H ev (.aB [])) od (.aB []) ev=some (.aB []):=by rw[aO neo,ao]
 have hod:aN (aN H ev (.aB [])) od (.aB []) od=some (.aB []):=ao;generalize aN (aN H ev (.aB [])) od (.aB [])=H1 at s0 hev hod⊢;have hcols:(vI (mV A x ((Dt.mem z).length-1))).length=x.rows:=by rw[gW,length_map,length_range,hD.sq]
 refine⟨lr,_,rfl,aF.of (s0 _ _ hlr),for_enum (K:=K) (a:=lr) (xs:=vI (mV A x ((Dt.mem z).length-1))) (λi σ Z=>aA H Z/\i<=x.rows/\Z ev=some (.aB (vI (Dt.parts A (x.mean A) d x.rows z true i)))/\Z od=some (.aB (vI (Dt.parts A (x.mean A) d x.rows z false i)))/\∃v1 v2 v3,σ=[some (.ref p),some (.ref lr),some (.int z),some (.ref lm),some (.ref ev),some (.ref od),v1,v2,v3]) ⟨s0,zero_le _,hev,hod,none,none,none,rfl⟩ (λi σ Z q=>q.1.seq (aF.of hlr)) ?_ ?_⟩
 ·rintro i v σ Z T hi ⟨s1,_,hev1,hod1,v1,v2,v3,rfl⟩ nT;obtain⟨en,rfl,hen⟩:=jq hi;have hir:i<x.rows:=by have:=(List.getElem?_eq_some_iff.mp hi).1;lia
  rw[getElem?_map,getElem?_range (by rw[<-hD.sq];exact hir)] at hen;injection hen with hen
  subst hen;have sT:aA Z (aN Z T (.tup [.int (i:Nat),.int (x.mean A ((Dt.mem z).length-1) i)])):=aA.laid nT;refine⟨T,_,rfl,bR.of ao,rfl,_,_,rfl,_,_,rfl,rfl,?_⟩;generalize aN Z T (.tup [.int (i:Nat),.int (x.mean A ((Dt.mem z).length-1) i)])=H2 at sT⊢;have Xy:=sT _ _ hev1;have hod2:=sT _ _ hod1;have s2:=s1.trans sT;have ei:((i:Int)).toNat=i:=toNat_natCast _;have hdom:Ar.Dom k (x.mean A ((Dt.mem z).length-1) i):=hx.dom O (by lia) (by rw[<-hD.sq];exact hir);ac_rfl;rw[ei,JG];refine⟨by lia,?_⟩;cases hb:z.testBit i with
  |true=>
   rw[if_pos (by decide)];have hlt:=bit_lt z (by lia) i (by have:=hD.n6;lia) hb;have exor:Builtin.bitXor (z:Int) ((1:Int)*(2:Int)^i)=((z ^^^ (1<<<i):Nat):Int):=by
    have:(1:Int)*(2:Int)^i=((1<<<i:Nat):Int):=by rw[Nat.shiftLeft_eq];simp
    rw[this,O6]
   refine⟨⟨by lia,?_⟩,?_⟩
   ·have:Builtin.Int.intBits 1=1:=rfl;rw[this];have:=hD.n6;lia
   rw[exor];have hat:(vI ((range z).map d))[z ^^^ (1<<<i)]? =some (.int (d (z ^^^ (1<<<i)))):=by
    rw[getElem?_map,getElem?_map,getElem?_range hlt];rfl
   refine aL (aF.of (s2 _ _ hlm)) (dU hat) ⟨p,k,m,A,_,_,rfl,hA.same s2,O,hm,hD.dom _ (by lia),hdom,λh2=>.inr (xM O hx h2 _ (mem_of_getElem? (O1 hx (by lia) (by rw[<-hD.sq];exact hir)))),?_⟩;ac_rfl;refine⟨z,i+1,i,rfl,by lia,by lia,by have:=hD.n6;lia,λD H3 acc nD s3 hD3 hacc=>?_⟩;refine⟨D,acc,rfl,.inl (aF.of hD3),?_⟩;rw[hacc,abv_above z (by lia) i (by have:=hD.n6;lia)];refine⟨by decide,?_⟩;have nDe:D≠ev:=λe=>by rw[e,Xy] at nD;cases nD
   by_cases hpar:Dt.above z i%2=0
   ·rw[if_pos (by lia)];ac_rfl;have hp1:(z.testBit i&&((Dt.above z i%2 == 0) == true))=true:=by rw[hb];simp[hpar]
    have hp2:¬(z.testBit i&&((Dt.above z i%2 == 0) == false))=true:=by simp[hpar]
    have hlen:=Td A (x.mean A) d x.rows z true i;refine⟨.inl ⟨rfl,_,aF.of (s3 _ _ Xy)⟩,ev,_,_,rfl,rfl,s3 _ _ Xy,by rw[gW];exact cD (by have:=hD.n6;lia),?_,by lia,?_,?_,_,_,_,rfl⟩
    ·intro b o e;rw[aO (aW e nev)];exact s3 _ _ (s2 _ _ e)
    ·rw[ao,mC,if_pos hp1];show some (HO.aB (map _ _++map _ [_]))=_;rw[<-map_append]
    ·rw[aO (Ne.symm neo),s3 _ _ hod2,mC,if_neg hp2,append_nil]
   ·rw[if_neg (by lia)];ac_rfl;have hp1:(z.testBit i&&((Dt.above z i%2 == 0) == false))=true:=by rw[hb];simp;lia
    have hp2:¬(z.testBit i&&((Dt.above z i%2 == 0) == true))=true:=by simp;lia
    have hlen:=Td A (x.mean A) d x.rows z false i;refine⟨.inl ⟨rfl,_,aF.of (s3 _ _ hod2)⟩,od,_,_,rfl,rfl,s3 _ _ hod2,by rw[gW];exact cD (by have:=hD.n6;lia),?_,by lia,?_,?_,_,_,_,rfl⟩
    ·intro b o e;rw[aO (aW e nod0)];exact s3 _ _ (s2 _ _ e)
    ·rw[aO neo,s3 _ _ Xy,mC,if_neg hp2,append_nil]
    ·rw[ao,mC,if_pos hp1];show some (HO.aB (map _ _++map _ [_]))=_;rw[<-map_append]
  |false=>
   rw[if_neg (by decide)];have hp:∀b:Bool,¬(z.testBit i&&((Dt.above z i%2 == 0) == b))=true:=λb=>by rw[hb];simp
   refine⟨s2,by lia,?_,?_,_,_,_,rfl⟩
   ·rw[Xy,mC,if_neg (hp true),append_nil]
   ·rw[hod2,mC,if_neg (hp false),append_nil]
 ·rintro σ Z ⟨s1,_,hev1,hod1,v1,v2,v3,rfl⟩;rw[hcols] at hev1 hod1;have h3:=minus_ne3 O hD.mi;have hdp:∀b:Bool,∀y∈Dt.parts A (x.mean A) d x.rows z b x.rows,Ar.Dom k y:=by
   intro b y hy;unfold Dt.parts at hy;obtain⟨c,hc,rfl⟩:=mem_map.mp hy;obtain⟨hc1,hc2⟩:=mem_filter.mp hc;have hcn:=List.mem_range.mp hc1;rw[and_eq_true] at hc2;have hlt:=bit_lt z (by lia) c (by have:=hD.n6;lia) hc2.1;exact Ar.dX O _ _ (hD.dom _ (by lia)) (hx.dom O (by lia) (by rw[<-hD.sq];exact hcn))
  ac_rfl;refine⟨p,ev,k,m,A,_,rfl,hA.same s1,O,aF.of hev1,hdp true,λz1 e1 rz1=>⟨p,od,k,m,A,_,rfl,hA.same s1,O,aF.of hod1,hdp false,λz2 e2 rz2=>?_⟩⟩;rw[nG h3] at e1 e2;refine⟨p,k,m,A,z1,z2,rfl,hA.same s1,O,hm,rz1.d,rz2.d,hD.mi,?_⟩;show Q (.int (A.less z1 z2)) Z;rw[e1,e2,hD.rec_ z z0 zn];exact q Z s1
theorem Ut (G:aU K mg a):bI P w K mg aq "determinant" a.uH 4 ["arithmetic","given","grids"]
  (iK a (λz A g Ms=>∃x,Ms=[x]/\x.rows=x.cols/\x.rows<=6/\A.minus.isSome=true) (λz z=>(1,1)) λA g Ms=>(GridTalk.oneValue A 0 .det (M0 Ms)).toOption):=G.QG.bx λfd F=>by
 refine F.ok jJ dI (λz A z s H vs Q E hr h=>?_);obtain⟨p,gv,gs,k,m,A,given,qs,Ms,rfl,hA,O,hm,hv,hg,hM,⟨x,rfl,mJ,h6,hmi⟩,q1,q2⟩:=h;cases hM with
 |cons hx eU=>
 cases eU;rename_i qx;have h64:2^x.rows<=64:=Nat.pow_le_pow_right (n:=2) (by lia) h6;obtain⟨d,d0,dn,ddom,drec⟩:=Dt.dets O hmi h6 (f:=x.mean A) λi j hi hj=>hx.wf.dom O hi (by lia);have hD:Dets k A x d:=⟨h6,mJ,hmi,d0,ddom,drec⟩;refine⟨_,(aC (aX 3 jJ.nd (aD (jt G) (bG (aJ aH bf au))))
   (aC (aX 4 jJ.nd (bK (bG (aD (Mp G) (bG aK))))) (aC (qU PassesOwn.never (bY (pL (cF bU (by rfl) G.fX PySem.boot_len (bG cM)) (bD Jp au (cF bU (by rfl) G.fX PySem.boot_len (bG bF))))) (aC (aX 5 jJ.nd (cF bU (by rfl) G.fX PySem.boot_len (bG cM)))
   (aC (aX 6 jJ.nd (aJ aH bF (bD lF (cF bU (by rfl) G.fX PySem.boot_len (bG (aD (yW G) (bB iV (nM j5 au))))) au) (λz z=>rfl)))
   (ak (eZ (iZ plainAttrs_list PySem.F.slot_list_append PySem.F.type_list_append gK cM (bG (aD (d_minor G) (bC aK (bC Cm (bB iV cM)))))))))))
   (ak (aG (bK (bG (aJ aH cM (nM j5 au) (λz z=>rfl))))))))),?_⟩
 ac_rfl;refine aL (aF.of hg) (bQ rfl) (jw G hx λR H1 as nR s1 hR ha hp=>?_);refine⟨p,k,m,A,rfl,hA.same s1,O,by decide,λo no=>?_⟩;have s2:aA H1 (aN H1 o (.aB [.int A.one])):=aA.laid no;have ho:aN H1 o (.aB [.int A.one]) o=some (.aB (vI ((range 1).map d))):=by rw[ao];show _=some (HO.aB [V.int (d 0)]);rw[d0]
 have eone:(λ(_:Nat) (A:Arith)=>V.int A.one) k A=V.int A.one:=rfl;have lU:H o=none:=s1.free no;have nRo:R≠o:=aW hR no
 try rw[eone]
 generalize aN H1 o (.aB [.int A.one])=H2 at s2 ho⊢;refine qW (λσ Z=>But [o] H2 Z/\∃(t:Nat) (v1 v2:Option V),1<=t/\t<=2^x.rows/\Z o=some (.aB (vI ((range t).map d)))/\σ=[some (.ref p),some (.ref gv),some (.ref gs),some (.ref R),some (.ref o),v1,v2])
  (λσ Z=>match Z o with|some (.aB ys)=>2^x.rows-ys.length|_=>0) ?_ ?_ ?_
 ·exact⟨(aA.refl _).but,1,none,none,Nat.le_refl _,Nat.one_le_two_pow,ho,rfl⟩
 ·rintro σ H3 ⟨b3,t,v1,v2,t1,tn,fM,rfl⟩;have SN:=b3 _ _ (s2 _ _ hR) (by simp[nRo]);have SX:aA H H3:=λb u e=>b3 _ _ (s2 _ _ (s1 _ _ e)) (by simp[aW e lU]);ac_rfl;refine⟨o,_,rfl,.inl (aF.of fM),R,_,rfl,.inl (aF.of SN),?_⟩;rw[length_map,length_map,length_map,length_range,ha];ac_rfl;have e2:(1:Int)*2^((x.rows:Int)).toNat=((2^x.rows:Nat):Int):=by rw[toNat_natCast];simp
  rw[e2];refine⟨⟨by lia,?_⟩,?_⟩
  ·have:Builtin.Int.intBits 1=1:=rfl;rw[this];lia
  by_cases ht:t<2^x.rows
  ·rw[if_pos (by lia)];have hml:=Dt.Jw x.rows h6 t ht;have hmp:=Dt.Jv t (by lia) (by lia);refine⟨o,_,rfl,.inl (aF.of fM),?_⟩;rw[length_map,length_map,length_range];ac_rfl;refine⟨t,0, -1,rfl,rfl,by lia,by lia,λD H4 acc nD s4 hD4 hacc=>?_⟩;refine⟨D,acc,rfl,.inl (aF.of hD4),?_⟩;rw[hacc,abv_all t (by lia)];have Er:D≠o:=λe=>by rw[e,fM] at nD;cases nD
   have dR:=s4 _ _ fM;obtain⟨lr,hlr⟩:∃lr,as[(Dt.mem t).length-1]? =some lr:=⟨as[(Dt.mem t).length-1]'(by lia),getElem?_eq_getElem (by lia)⟩;obtain⟨_,nlr,hlr1⟩:=hp _ lr hlr;have nlo:lr≠o:=aW hlr1 no;have hlr4:=s4 _ _ (b3 _ _ (s2 _ _ hlr1) (by simp[nlo]));refine aL (aF.of (s4 _ _ SN)) (at_of (j:=(Dt.mem t).length-1) (by lia) (by rw[getElem?_map,hlr];rfl)) ?_;ac_rfl;refine⟨.inl ⟨rfl,_,aF.of dR⟩,p,lr,o,k,m,t,A,x,d,rfl,(hA.same SX).same s4,O,hm,hx.wf,hD,by lia,ht,hlr4,dR,λH5 s5=>?_⟩;refine⟨o,_,_,rfl,rfl,s5 _ _ dR,by rw[gW,length_map,length_range];exact cD (by lia),?_⟩;have eapp:vI ((range t).map d)++[V.int (d t)]=vI ((range (t+1)).map d):=by
    rw[range_succ,map_append];show map _ _++map _ [_]=_;rw[<-map_append];rfl
   refine⟨⟨b3.trans (s4.but.trans (s5.but.trans But.wrote)),t+1,_,_,by lia,by lia,by rw[ao,eapp],rfl⟩,?_⟩;rw[ao,fM];show 2^x.rows-(vI ((range t).map d)++[V.int (d t)]).length<2^x.rows-(vI ((range t).map d)).length;rw[length_append,gW,length_map,length_range];simp;lia
  ·rw[if_neg (by lia)];have ht2:t=2^x.rows:=by lia
   ac_rfl;have hlast:(vI ((range t).map d))[t-1]? =some (.int (d (t-1))):=by rw[getElem?_map,getElem?_map,getElem?_range (by lia)];rfl
   refine aL (aF.of fM) (oE hlast (by rw[gW,length_map,length_range]) t1) ⟨by decide,λD nD=>?_⟩;rw[ht2,dn];refine q2 [GridTalk.det A x.rows (x.mean A)] D _ ?_ (SX.trans (aA.laid nD)) ao;exact Ent.made O (r:=1) (c:=1) (f:=λz z=>GridTalk.det A x.rows (x.mean A)) λz z z z=>Vl.Qh O _ _ λi j hi hj=>hx.wf.dom O hi (by lia)
 ·intro σ Z Q Q' hQ hc;obtain⟨v,hv,p',ys,e1,h1,v2,hv2,p2,ys2,e2,h2,i,j,e3,e4,hc',i',j',e5,e6,c,e7,q'⟩:=hc;exact⟨v,hv,p',ys,e1,h1,v2,hv2,p2,ys2,e2,h2,i,j,e3,e4,hc',i',j',e5,e6,c,e7,hQ _ _ q'⟩
theorem lB (b:Bool)(z:Size)(p:Nat):(whether b z p).toOption=fK b z:=by unfold whether;cases b<;>rfl
def SzOut (H:Hp)(t:Option Size)(Q:VK):Prop:=(t=none->∀Z,aA H Z->Q .non Z)/\∀z q Z,t=some z->aA H Z->iJ Z q z->Q (.ref q) Z
inductive nJ (mi:Bool):Nat->List Nat->List Size->Option Size->Prop
 |leaf (l:Leaf) (h:∀k,l≠ .table k):nJ mi (vq l).1 (vq l).2 [] (pW [] l)
 |one (o:One) (z:Size) (h:Vl.kZ z):nJ mi (pU o).1 (pU o).2 [z] (pB mi o z)
 |two (o:Two) (z y:Size) (h:Vl.kZ z) (h':Vl.kZ y):nJ mi (Jx o) [] [z,y] (pC mi o z y)
inductive spSzOp (a:Ad)(vs:List V)(H:Hp)(Q:VK)(E:XK):Prop where
 |mk (n:Nat) (p gv gs:Addr) (k m:Nat) (A:Arith) (given:List Nat) (ts:List Addr) (ss:List Size) (t:Option Size) (cI:vs=[.int n,.ref p,.ref gv,.ref gs]) (cJ:dO a H p k m) (cQ:arith k m=some A) (dH:H gv=some (.aB (vN given))) (fC:H gs=some (.aB (ts.map V.ref))) (gF:Paired (iJ H) ts ss) (iQ:nJ A.minus.isSome n given ss t) (kE:SzOut H t Q)
theorem yX {n:Nat}(h:1<=n):sized n=decide (n<=16):=by
 unfold sized;rw[decide_eq_true h,Bool.true_and];rfl
theorem Fv (G:aU K mg a):bI P w K mg aq "size_of_operation" a.qM 3 ["number","arithmetic","given","sizes"] (spSzOp a):=G.Dv.bx λfd F=>by
 refine F.ok CJ (λvs H Q E h=>?_) (λx A x s H vs Q E hr h=>?_)
 ·obtain⟨n,p,gv,gs,k,m,A,given,ts,ss,t,rfl,_⟩:=h;rfl
 obtain⟨n,p,gv,gs,k,m,A,given,ts,ss,t,rfl,hA,O,hv,hg,hp,hc,q⟩:=h;refine⟨_,(ak (aG (jT (Jr (jc rfl G.SIZES) aK (λx x=>rfl)) (bC aR (bB bf bF))))),?_⟩;ac_rfl;have go:∀{nm:Str}{f:Addr}{C:List Nat->List Size->Prop}{tg:Bool->List Nat->List Size->Option Size},bI P w K mg aq nm f 2 ["arithmetic","given","sizes"] (gb a C tg)->C given ss->tg A.minus.isSome given ss=t->
   gb a C tg [.ref p,.ref gv,.ref gs] H Q E0:=by
  intro nm f C tg _ hC he;subst he;exact⟨p,gv,gs,k,m,A,given,ts,ss,rfl,hA,O,hv,hg,hp,hC,q.1,q.2⟩
 have hr1:=hr.mono (show 2<=2 by decide);cases hc with
 |leaf l h=>
  cases l with
  |table k=>exact absurd rfl (h k)
  |zeros r c=>exact⟨_,_,_,_,rfl,rfl,G.fV,rfl,aY (yP G) hr1 (go (yP (P:=P) (w:=w) (aq:=aq) G) ⟨r,c,rfl⟩ rfl)⟩
  |unit n=>exact⟨_,_,_,_,rfl,rfl,G.fV,rfl,aY (Bq G) hr1 (go (Bq (P:=P) (w:=w) (aq:=aq) G) ⟨n,rfl⟩ rfl)⟩
  |lit v=>exact⟨_,_,_,_,rfl,rfl,G.fV,rfl,aY ((xP G).mono (by decide)) hr1 (go ((xP (P:=P) (w:=w) (aq:=aq) G).mono (by decide)) ⟨v,rfl⟩ rfl)⟩
 |one o z h=>
  cases o with
  |turn=>exact⟨_,_,_,_,rfl,rfl,G.fV,rfl,aY ((xQ G).mono (by decide)) hr1 (go ((xQ (P:=P) (w:=w) (aq:=aq) G).mono (by decide)) ⟨z,rfl⟩ rfl)⟩
  |trace=>exact⟨_,_,_,_,rfl,rfl,G.fV,rfl,aY (yQ G) hr1 (go (yQ (P:=P) (w:=w) (aq:=aq) G) ⟨z,rfl⟩ (lB _ _ _).symm)⟩
  |power e=>exact⟨_,_,_,_,rfl,rfl,G.fV,rfl,aY (yR G) hr1 (go (yR (P:=P) (w:=w) (aq:=aq) G) ⟨e,z,rfl,rfl⟩ (lB _ _ _).symm)⟩
  |closure=>exact⟨_,_,_,_,rfl,rfl,G.fV,rfl,aY (vd G) hr1 (go (vd (P:=P) (w:=w) (aq:=aq) G) ⟨z,rfl⟩ (lB _ _ _).symm)⟩
  |det=>exact⟨_,_,_,_,rfl,rfl,G.fV,rfl,aY (pI G) hr1 (go (pI (P:=P) (w:=w) (aq:=aq) G) ⟨z,rfl⟩ (lB _ _ _).symm)⟩
  |cut i r j c=>
   refine⟨_,_,_,_,rfl,rfl,G.fV,rfl,aY (Ep G) hr1 (go (Ep (P:=P) (w:=w) (aq:=aq) G) ⟨i,r,j,c,z,rfl,rfl⟩ (Eq.trans ?_ (lB _ _ _).symm))⟩;show fK ((decide (1<=r)&&decide (i+r<=z.1))&&(decide (1<=c)&&decide (j+c<=z.2))) (r,c)=fK (decide (1<=r)&&(decide (1<=c)&&(decide (i+r<=z.1)&&decide (j+c<=z.2)))) (r,c);generalize decide (1<=r)=b1;generalize decide (1<=c)=b2;generalize decide (i+r<=z.1)=b3;cases b1<;>cases b2<;>cases b3<;>rfl
 |two o z y h h'=>
  obtain⟨h1,h2,h3,h4⟩:=h;obtain⟨g1,g2,g3,g4⟩:=h';cases o with
  |sum=>exact⟨_,_,_,_,rfl,rfl,G.fV,rfl,aY (iz G) hr1 (go (iz (P:=P) (w:=w) (aq:=aq) G) ⟨z,y,rfl⟩ (lB _ _ _).symm)⟩
  |diff=>
   refine⟨_,_,_,_,rfl,rfl,G.fV,rfl,aY (qH G) hr1 (go (qH (P:=P) (w:=w) (aq:=aq) G) ⟨z,y,rfl⟩ (Eq.trans ?_ (lB _ _ _).symm))⟩;show fK ((z.1 == y.1&&z.2 == y.2)&&A.minus.isSome) z=fK (z.1 == y.1&&(z.2 == y.2&&A.minus.isSome)) z;rw[Bool.and_assoc]
  |prod=>exact⟨_,_,_,_,rfl,rfl,G.fV,rfl,aY (vf G) hr1 (go (vf (P:=P) (w:=w) (aq:=aq) G) ⟨z,y,rfl⟩ (lB _ _ _).symm)⟩
  |each=>exact⟨_,_,_,_,rfl,rfl,G.fV,rfl,aY (iz G) hr1 (go (iz (P:=P) (w:=w) (aq:=aq) G) ⟨z,y,rfl⟩ (lB _ _ _).symm)⟩
  |kron=>
   refine⟨_,_,_,_,rfl,rfl,G.fV,rfl,aY (xT G) hr1 (go (xT (P:=P) (w:=w) (aq:=aq) G) ⟨z,y,rfl,h2,h4⟩ (Eq.trans ?_ (lB _ _ _).symm))⟩;show fK (sized (z.1*y.1)&&sized (z.2*y.2)) _=fK (decide (z.1*y.1<=16)&&decide (z.2*y.2<=16)) _;rw[yX (mul_pos h1 g1),yX (mul_pos h3 g3)];rfl
  |beside=>
   refine⟨_,_,_,_,rfl,rfl,G.fV,rfl,aY (xR G) hr1 (go (xR (P:=P) (w:=w) (aq:=aq) G) ⟨z,y,rfl⟩ (Eq.trans ?_ (lB _ _ _).symm))⟩;show fK (z.1 == y.1&&sized (z.2+y.2)) _=fK (z.1 == y.1&&decide (z.2+y.2<=16)) _;rw[yX (by lia)];rfl
  |below=>
   refine⟨_,_,_,_,rfl,rfl,G.fV,rfl,aY (yS G) hr1 (go (yS (P:=P) (w:=w) (aq:=aq) G) ⟨z,y,rfl⟩ (Eq.trans ?_ (lB _ _ _).symm))⟩;show fK (z.2 == y.2&&sized (z.1+y.1)) _=fK (z.2 == y.2&&decide (z.1+y.1<=16)) _;rw[yX (by lia)];rfl
  |scale=>exact⟨_,_,_,_,rfl,rfl,G.fV,rfl,aY (uh G) hr1 (go (uh (P:=P) (w:=w) (aq:=aq) G) ⟨z,y,rfl⟩ (lB _ _ _).symm)⟩
inductive oA (A:Arith):Nat->List Nat->List Mat->Nat->Nat->Option Mat->Prop
 |zeros (r c:Nat) (h:r<=16) (h':c<=16):oA A 16 [r,c] [] r c (Af A [] (.zeros r c))
 |unit (n:Nat) (h:1<=n) (h':n<=16):oA A 17 [n] [] n n (Af A [] (.unit n))
 |lit (v:Nat) (h:v<18446744073709551616) (h':A.number v=true):oA A 18 [v] [] 1 1 (Af A [] (.lit v))
 |one (o:One) (x:Mat) (z:Size) (h:pB A.minus.isSome o (x.rows,x.cols)=some z):oA A (pU o).1 (pU o).2 [x] z.1 z.2 (Ag A o x)
 |two (o:Two) (x y:Mat) (z:Size) (h:pC A.minus.isSome o (x.rows,x.cols) (y.rows,y.cols)=some z):oA A (Jx o) [] [x,y] z.1 z.2 (Ah A o x y)
inductive spVOp (a:Ad)(vs:List V)(H:Hp)(Q:VK)(E:XK):Prop where
 |mk (n:Nat) (p gv gs t:Addr) (k m:Nat) (A:Arith) (given:List Nat) (qs:List Addr) (Ms:List Mat) (r c:Nat) (tg:Option Mat) (cI:vs=[.int n,.ref p,.ref gv,.ref gs,.ref t]) (cJ:dO a H p k m) (cQ:arith k m=some A) (dH:m<18446744073709551616) (fC:H gv=some (.aB (vN given))) (gF:H gs=some (.aB (qs.map V.ref))) (iQ:Paired (MG a A H) qs Ms) (kE:iJ H t (r,c)) (ud:1<=r) (Bm:r<=16) (zP:1<=c) (Ii:c<=16) (Xd:oA A n given Ms r c tg) (h13_:Bw a H A tg Q)
theorem if_some {b:Bool}{z y:Size}(h:fK b z=some y):b=true/\z=y:=by
 cases b with
 |true=>injection h with h;exact⟨rfl,h⟩
 |false=>cases h
theorem iT {b:Bool}{z y:Size}(h:(whether b z 0).toOption=some y):b=true/\z=y:=by rw[lB] at h;exact if_some h
theorem DN (G:aU K mg a):bI P w K mg aq "value_of_operation" a.qd 8 ["number","arithmetic","given","grids","size"] (spVOp a):=G.Bf.bx λfd F=>by
 have jO:=@xK P w K mg aq a G;refine F.ok pF (λvs H Q E h=>?_) (λu A u s H vs Q E hr h=>?_)
 ·obtain⟨n,p,gv,gs,t,k,m,A,given,qs,Ms,r,c,tg,rfl,_⟩:=h;rfl
 obtain⟨n,p,gv,gs,t,k,m,A,given,qs,Ms,r,c,tg,rfl,hA,O,hm,hv,hg,hM,ht,r1,r16,c1,c16,hc,q⟩:=h;refine⟨_,(aC (aX 5 pF.nd (jT (Jr (jc rfl G.OPERATIONS) aK (λu u=>rfl)) (bC aR (bB bf bF)))) (aC (cC (bY (sI iV)) (ak (aG mX)) bN) (ak (aG (aD (yM G) (bB aR (iC jO (bC (aJ bT cM au) (bB (aJ bT cM au) iV))))))))),?_⟩;simp_arith! [mL];have go:∀{C:Nat->Arith->List Nat->List Mat->Prop}{sz:List Nat->List Mat->Nat×Nat}{tg':Arith->List Nat->List Mat->Option Mat},C k A given Ms->sz given Ms=(r,c)->tg' A given Ms=tg->
   iK a C sz tg' [.ref p,.ref gv,.ref gs] H (λx H1=>if x=V.non then Q V.non H1 else PN K (V.ref t) (V.int 0) H1 λx_1 H1=>PN K (V.ref t) (V.int 1) H1 λx_2 H1=>∀(y dx:Addr),H1 y=none->H1 dx=none->dx≠y->Mq a [V.ref y,x_1,x_2,x] (aN (aN H1 dx (HO.own y)) y (HO.ins a.kh dx [])) (λv H2=>v=V.non/\Xc a [V.ref p,V.ref y] H2 Q E0) E0) E0:=by
  intro C sz tg' hC hs he;subst he;refine⟨p,gv,gs,k,m,A,given,qs,Ms,rfl,hA,O,hm,hv,hg,hM,hC,λhn Z s1=>?_,λzs D Z hE s1 hD=>?_⟩
  ·show if V.non=V.non then _ else _;rw[if_pos rfl];exact q.1 hn Z s1
  ·show if V.ref D=V.non then _ else _;rw[if_neg (by intro z;cases z)];rw[hs] at hE;have ht1:=s1 _ _ ht;refine bw (bR.of ht1) (bQ rfl) (bw (bR.of ht1) (cT rfl) (rR (h:=r) (c:=c) rfl rfl λg2 H2 ng s2 lR=>?_));refine⟨p,g2,D,k,m,r,c,A,zs,rfl,(hA.same s1).same s2,O,lR,s2 _ _ hD,hE.d,hE.len,r1,r16,c1,c16,λhn H3 s3=>q.1 (by rw[<-hE.w];exact hn) H3 (s1.trans (s2.trans s3)),λM z H3 hM u u nz s3 Eu=>q.2 M z H3 (by rw[<-hE.w];exact hM) (s1.free (s2.free nz)) (s1.trans (s2.trans s3)) Eu⟩
 have hr1:=hr.mono (show 7<=7 by decide);cases hc with
 |zeros _ _ h h2=>
  exact⟨_,_,_,_,rfl,rfl,G.cH,rfl,aY ((d_nones G).mono (by decide)) hr1 (go ⟨_,_,rfl,rfl,h,h2⟩ rfl rfl)⟩
 |unit _ h h2=>
  exact⟨_,_,_,_,rfl,rfl,G.cH,rfl,aY ((d_ones G).mono (by decide)) hr1 (go ⟨_,rfl,h,h2⟩ rfl rfl)⟩
 |lit _ h h2=>
  exact⟨_,_,_,_,rfl,rfl,G.cH,rfl,aY ((d_single G).mono (by decide)) hr1 (go ⟨_,rfl,h,h2⟩ rfl rfl)⟩
 |one o x z h=>
  cases o with
  |turn=>
   injection h with h;subst h;exact⟨_,_,_,_,rfl,rfl,G.cH,rfl,aY ((d_turned G).mono (by decide)) hr1 (go ⟨x,rfl⟩ rfl rfl)⟩
  |trace=>
   obtain⟨hb,hz⟩:=iT h;subst hz;exact⟨_,_,_,_,rfl,rfl,G.cH,rfl,aY ((d_trace G).mono (by decide)) hr1 (go ⟨x,rfl,gU hb⟩ rfl rfl)⟩
  |power e=>
   obtain⟨hb,hz⟩:=iT h;subst hz;rw[and_eq_true] at hb;exact⟨_,_,_,_,rfl,rfl,G.cH,rfl,aY ((d_power G).mono (by decide)) hr1 (go ⟨e,x,rfl,rfl,gU hb.1,of_decide_eq_true hb.2⟩ rfl rfl)⟩
  |closure=>
   obtain⟨hb,hz⟩:=iT h;subst hz;exact⟨_,_,_,_,rfl,rfl,G.cH,rfl,aY ((d_closure G).mono (by decide)) hr1 (go ⟨x,rfl,gU hb⟩ rfl rfl)⟩
  |det=>
   obtain⟨hb,hz⟩:=iT h;subst hz;rw[and_eq_true,and_eq_true] at hb;exact⟨_,_,_,_,rfl,rfl,G.cH,rfl,aY ((Ut G).mono (by decide)) hr1 (go ⟨x,rfl,gU hb.1,of_decide_eq_true hb.2.1,hb.2.2⟩ rfl rfl)⟩
  |cut i r j c=>
   obtain⟨hb,hz⟩:=iT h;subst hz;rw[and_eq_true,and_eq_true,and_eq_true] at hb;exact⟨_,_,_,_,rfl,rfl,G.cH,rfl,aY ((d_cut G).mono (by decide)) hr1 (go ⟨i,r,j,c,x,rfl,rfl,of_decide_eq_true hb.2.2.1,of_decide_eq_true hb.2.2.2⟩ rfl rfl)⟩
 |two o x y z h=>
  cases o with
  |sum=>
   obtain⟨hb,hz⟩:=iT h;subst hz;rw[and_eq_true] at hb;exact⟨_,_,_,_,rfl,rfl,G.cH,rfl,aY ((Bt G).mono (by decide)) hr1 (go ⟨x,y,rfl,gU hb.1,gU hb.2⟩ rfl rfl)⟩
  |diff=>
   obtain⟨hb,hz⟩:=iT h;subst hz;rw[and_eq_true,and_eq_true] at hb;exact⟨_,_,_,_,rfl,rfl,G.cH,rfl,aY ((zR G).mono (by decide)) hr1 (go ⟨x,y,rfl,gU hb.1,gU hb.2.1,hb.2.2⟩ rfl rfl)⟩
  |prod=>
   obtain⟨hb,hz⟩:=iT h;subst hz;exact⟨_,_,_,_,rfl,rfl,G.cH,rfl,aY ((d_product G).mono (by decide)) hr1 (go ⟨x,y,rfl,gU hb⟩ rfl rfl)⟩
  |each=>
   obtain⟨hb,hz⟩:=iT h;subst hz;rw[and_eq_true] at hb;exact⟨_,_,_,_,rfl,rfl,G.cH,rfl,aY ((zT G).mono (by decide)) hr1 (go ⟨x,y,rfl,gU hb.1,gU hb.2⟩ rfl rfl)⟩
  |kron=>
   obtain⟨hb,hz⟩:=iT h;subst hz;exact⟨_,_,_,_,rfl,rfl,G.cH,rfl,aY ((d_blocks G).mono (by decide)) hr1 (go ⟨x,y,rfl⟩ rfl rfl)⟩
  |beside=>
   obtain⟨hb,hz⟩:=iT h;subst hz;rw[and_eq_true] at hb;exact⟨_,_,_,_,rfl,rfl,G.cH,rfl,aY ((d_beside G).mono (by decide)) hr1 (go ⟨x,y,rfl,gU hb.1⟩ rfl rfl)⟩
  |below=>
   obtain⟨hb,hz⟩:=iT h;subst hz;rw[and_eq_true] at hb;exact⟨_,_,_,_,rfl,rfl,G.cH,rfl,aY ((d_below G).mono (by decide)) hr1 (go ⟨x,y,rfl,gU hb.1⟩ rfl rfl)⟩
  |scale=>
   obtain⟨hb,hz⟩:=iT h;subst hz;rw[and_eq_true] at hb;exact⟨_,_,_,_,rfl,rfl,G.cH,rfl,aY ((d_multiple G).mono (by decide)) hr1 (go ⟨x,y,rfl,gU hb.1,gU hb.2⟩ rfl rfl)⟩
def fm (n:Nat):Bool:=(n == 16||n == 17||n == 18)||(decide (32<=n/\n<=37)||decide (48<=n/\n<=55))
theorem fm_or {n:Nat}(h:fm n=true):n=16\/n=17\/n=18\/n=32\/n=33\/n=34\/n=35\/n=36\/n=37\/n=48\/n=49\/n=50\/n=51\/n=52\/n=53\/n=54\/n=55:=by
 have hn:n<56:=by
  unfold fm at h;simp only[Bool.or_eq_true,beq_iff_eq,decide_eq_true_eq] at h;lia
 exact(by decide+kernel:∀n:Fin 56,fm n.1=true->n.1=16\/n.1=17\/n.1=18\/n.1=32\/n.1=33\/n.1=34\/n.1=35\/n.1=36\/n.1=37\/n.1=48\/n.1=49\/n.1=50\/n.1=51\/n.1=52\/n.1=53\/n.1=54\/n.1=55) ⟨n,hn⟩ h
abbrev Z4 (a:Ad):List (Int×V):=[(16,.ref a.CW),(17,.ref a.CZ),(18,.ref a.Dc),(32,.ref a.Dd),(33,.ref a.Df),(34,.ref a.Dg),(35,.ref a.Dh),(36,.ref a.Di),(37,.ref a.Dj),(48,.ref a.Dk),(49,.ref a.Dl),(50,.ref a.Dm),(51,.ref a.Dn),(52,.ref a.Dq),(53,.ref a.Dr),(54,.ref a.Ds),(55,.ref a.Du)]
theorem Q0 (G:aU K mg a){n:Nat}(h:fm n=true):∃t,wj (Z4 a) (n:Int)=some (.ref t)/\∀H:Hp,bR K H t [.int (GridTalk.numbers n:Nat),.int (jH n:Nat)]:=by
 rcases fm_or h with rfl|rfl|rfl|rfl|rfl|rfl|rfl|rfl|rfl|rfl|rfl|rfl|rfl|rfl|rfl|rfl|rfl
 ·exact⟨_,rfl,G.s_FORMS_16⟩
 ·exact⟨_,rfl,G.s_FORMS_17⟩
 ·exact⟨_,rfl,G.s_FORMS_18⟩
 ·exact⟨_,rfl,G.s_FORMS_32⟩
 ·exact⟨_,rfl,G.s_FORMS_33⟩
 ·exact⟨_,rfl,G.s_FORMS_34⟩
 ·exact⟨_,rfl,G.s_FORMS_35⟩
 ·exact⟨_,rfl,G.s_FORMS_36⟩
 ·exact⟨_,rfl,G.s_FORMS_37⟩
 ·exact⟨_,rfl,G.s_FORMS_48⟩
 ·exact⟨_,rfl,G.s_FORMS_49⟩
 ·exact⟨_,rfl,G.s_FORMS_50⟩
 ·exact⟨_,rfl,G.s_FORMS_51⟩
 ·exact⟨_,rfl,G.s_FORMS_52⟩
 ·exact⟨_,rfl,G.s_FORMS_53⟩
 ·exact⟨_,rfl,G.s_FORMS_54⟩
 ·exact⟨_,rfl,G.s_FORMS_55⟩
theorem form_no {n:Nat}(h:fm n=false):wj (Z4 a) (n:Int)=none:=by
 have k:∀z∈(Z4 a).map (·.1),fm z.toNat=true:=of_decide_eq_true rfl;unfold wj;rw[List.find?_eq_none.2];rfl;intro p hp e;have q:=k p.1 (List.mem_map_of_mem hp);rw[show p.1=n by simpa using e,toNat_natCast,h] at q;cases q
theorem Z5 (G:aU K mg a)(n:Nat):(wj (Z4 a) (n:Int)).isSome=fm n:=by
 cases h:fm n with
 |true=>obtain⟨t,e,_⟩:=Q0 G h;rw[e];rfl
 |false=>rw[form_no h];rfl
theorem num_no {n:Nat}(h:fm n=false):GridTalk.numbers n=0/\jH n=0:=by
 unfold fm at h;simp only[Bool.or_eq_false_iff,beq_eq_false_iff_ne,decide_eq_false_iff_not] at h;unfold GridTalk.numbers jH;rw[if_neg (by lia),if_neg (by lia),if_neg (by lia),if_neg (by lia),if_neg (by lia)];exact⟨rfl,rfl⟩
inductive spN (g:Nat->V)(vs:List V)(H:Hp)(Q:VK)(E:XK):Prop where
 |mk (n:Nat) (cI:vs=[.int n]) (cJ:Q (g n) H)
theorem Q5 {g}:∀vs H Q E,spN g vs H Q E->vs.length=1:=by
 rintro vs H Q E ⟨n,rfl,_⟩;rfl
theorem fD (G:aU K mg a):bI P w K mg aq "is_matrix_expressions" a.mG 1 ["number"] (spN λn=>.bl (!fm n)):=G.xq.bx λfd F=>by
 refine F.ok wJ Q5 (λz A z s H vs Q E hr h=>?_);obtain⟨n,rfl,q⟩:=h;refine⟨_,(ak (aG (fU (pc_knotin aK (jc rfl G.FORMS))))),?_⟩;ac_rfl;refine⟨_,_,n,rfl,rfl,G.JF,?_⟩;have q:Q (.bl (!fm n)) H:=q;rw[if_pos trivial];show Q (.bl (!(wj (Z4 a) (n:Int)).isSome)) H;rw[Z5 G n];exact q
theorem Mr (G:aU K mg a):bI P w K mg aq "how_many_given" a.wL 2 ["number"] (spN λn=>.int (GridTalk.numbers n:Nat)):=G.J7.bx λfd F=>by
 refine F.ok JT Q5 (λz A z s H vs Q E hr h=>?_);obtain⟨n,rfl,q⟩:=h;refine⟨_,(ak (aG (iB (iG (aD (fD G) (bG aK))) au (aJ bT (Jr (jc rfl G.FORMS) aK (λz z=>rfl)) au)))),?_⟩;ac_rfl;refine⟨n,rfl,_,rfl,?_⟩;cases hf:fm n with
 |true=>
  rw[if_neg (by decide)];obtain⟨t,e,ht⟩:=Q0 G hf;exact⟨_,_,n,_,rfl,rfl,G.JF,e,bw (ht H) (bQ rfl) q⟩
 |false=>
  rw[if_pos (by decide)];have q:Q (.int (GridTalk.numbers n:Nat)) H:=q;rw[(num_no hf).1] at q;exact q
theorem Fw (G:aU K mg a):bI P w K mg aq "how_many_operands" a.qN 2 ["number"] (spN λn=>.int (jH n:Nat)):=G.Dy.bx λfd F=>by
 refine F.ok CK Q5 (λz A z s H vs Q E hr h=>?_);obtain⟨n,rfl,q⟩:=h;refine⟨_,(ak (aG (iB (iG (aD (fD G) (bG aK))) au (aJ bT (Jr (jc rfl G.FORMS) aK (λz z=>rfl)) au)))),?_⟩;ac_rfl;refine⟨n,rfl,_,rfl,?_⟩;cases hf:fm n with
 |true=>
  rw[if_neg (by decide)];obtain⟨t,e,ht⟩:=Q0 G hf;exact⟨_,_,n,_,rfl,rfl,G.JF,e,bw (ht H) (cT rfl) q⟩
 |false=>
  rw[if_pos (by decide)];have q:Q (.int (jH n:Nat)) H:=q;rw[(num_no hf).2] at q;exact q
inductive spBegins (vs:List V)(H:Hp)(Q:VK)(E:XK):Prop where
 |mk (n k r:Nat) (cI:vs=[.int n,.int k,.int r]) (cJ:Q (.bl (begins k r n)) H)
theorem Mt (G:aU K mg a):bI P w K mg aq "begins_operand" a.wM 1 ["number","matrices","around"] spBegins:=G.J8.bx λfd F=>by
 refine F.ok JV (λvs H Q E h=>?_) (λz A z s H vs Q E hr h=>?_)
 ·obtain⟨n,k,r,rfl,_⟩:=h;rfl
 obtain⟨n,k,r,rfl,q⟩:=h;refine⟨_,(aC (cC (bY (pL aK aR)) (ak (aG pe_bl)) bN) (ak (aG (jj (fU (pc_kin aK (jc rfl G.FORMS))) (eF (pe_or (fU (pL aK (bL rfl G.Fi))) (eF (fU (pL bf (bL rfl G.Fg)))))))))),?_⟩;ac_rfl;unfold begins at q;by_cases O:n<k
 ·rw[if_pos (by lia)];rw[decide_eq_true O,Bool.true_or] at q;exact q
 ·rw[if_neg (by lia)];rw[decide_eq_false O,Bool.false_or] at q;refine⟨_,_,n,rfl,rfl,G.JF,?_⟩;have hf:=Z5 G n;show if (if false=true then _ else(wj (Z4 a) (n:Int)).isSome)=true then _ else _;rw[if_neg (show¬false=true by decide),hf];cases h:fm n with
  |false=>
   rw[if_neg (by decide)];unfold fm at h;rw[Bool.or_eq_false_iff] at h;rw[h.1,h.2] at q;exact q
  |true=>
   rw[if_pos rfl];by_cases h32:n<32
   ·rw[if_pos (by lia)];have h1:(n == 16||n == 17||n == 18)=true:=by
     unfold fm at h;simp only[Bool.or_eq_true,beq_iff_eq,decide_eq_true_eq] at h⊢;lia
    rw[h1] at q;exact q
   ·rw[if_neg (by lia)];have h1:(n == 16||n == 17||n == 18)=false:=by simp;lia
    have h2:(decide (32<=n/\n<=37)||decide (48<=n/\n<=55))=true:=by unfold fm at h;rw[h1,Bool.false_or] at h;exact h
    rw[h1,h2,Bool.false_or,Bool.true_and] at q;have e:decide ((r:Int)<32)=decide (r<32):=decide_eq_decide.mpr (by lia);rw[e];exact q
def O8 (n p:Nat)(g o:Addr):List (Str×V):=bA "operands" (.ref o) (bA "given" (.ref g) (bA "place" (.int p) (bA "number" (.int n) [])))
theorem stF_n (n p:Nat)(g o:Addr):(O8 n p g o).lookup ("number":Str)=some (.int n):=by
 unfold O8;rw[aP,if_neg (by decide+kernel),aP,if_neg (by decide+kernel),aP,if_neg (by decide+kernel),aP,if_pos rfl]
theorem stF_p (n p:Nat)(g o:Addr):(O8 n p g o).lookup ("place":Str)=some (.int p):=by
 unfold O8;rw[aP,if_neg (by decide+kernel),aP,if_neg (by decide+kernel),aP,if_pos rfl]
theorem stF_g (n p:Nat)(g o:Addr):(O8 n p g o).lookup ("given":Str)=some (.ref g):=by
 unfold O8;rw[aP,if_neg (by decide+kernel),aP,if_pos rfl]
theorem stF_o (n p:Nat)(g o:Addr):(O8 n p g o).lookup ("operands":Str)=some (.ref o):=by
 unfold O8;rw[aP,if_pos rfl]
def KZ (a:Ad)(H:Hp)(q:Addr)(n p:Nat)(g o:Addr):Prop:=∃dx,H q=some (.ins a.kj dx (O8 n p g o))
theorem jA (G:aU K mg a){H:Hp}{q:Addr}{n p:Nat}{g o:Addr}(x:KZ a H q n p g o){Q:VK}:gn K "number" (.ref q) H Q↔Q (.int n) H:=by
 obtain⟨dx,z⟩:=x;exact dJ z G.pG G.Em (stF_n n p g o)
theorem Mu (G:aU K mg a){H:Hp}{q:Addr}{n p:Nat}{g o:Addr}(x:KZ a H q n p g o){Q:VK}:gn K "place" (.ref q) H Q↔Q (.int p) H:=by
 obtain⟨dx,z⟩:=x;exact dJ z G.pG G.Hu (stF_p n p g o)
theorem Q6 (G:aU K mg a){H:Hp}{q:Addr}{n p:Nat}{g o:Addr}(x:KZ a H q n p g o){Q:VK}:gn K "given" (.ref q) H Q↔Q (.ref g) H:=by
 obtain⟨dx,z⟩:=x;exact dJ z G.pG G.Hv (stF_g n p g o)
theorem vJ (G:aU K mg a){H:Hp}{q:Addr}{n p:Nat}{g o:Addr}(x:KZ a H q n p g o){Q:VK}:gn K "operands" (.ref q) H Q↔Q (.ref o) H:=by
 obtain⟨dx,z⟩:=x;exact dJ z G.pG G.yK (stF_o n p g o)
inductive Xz (a:Ad)(vs:List V)(H:Hp)(Q:VK)(E:XK):Prop where
 |mk (q dx g:Addr) (n p:Nat) (cI:vs=[.ref q,.int n,.int p,.ref g]) (cJ:H q=some (.ins a.kj dx [])) (cQ:∀(Z:Hp) (o:Addr),KZ a Z q n p g o->H o=none->Z o=some (.aB [])->But [q] H Z->Q .non Z)
theorem Te (f g h:Str)(x y z:V):(bA f x (bA g y (bA h z []))).length<1000:=by
 have h1:=cO f x (bA g y (bA h z []));have h2:=cO g y (bA h z []);have h3:=cO h z [];simp at h3;lia
theorem d_Step (G:aU K mg a):Nm P w K mg aq "Step" a.kj 1 ["self","number","place","given"] (Xz a):=G.W4.bx λfd F=>by
 refine F.ok Wv (λvs H Q E h=>?_) (λy A y s H vs Q E hr h=>?_)
 ·obtain⟨q,dx,g,n,p,rfl,_⟩:=h;rfl
 obtain⟨q,dx,g,n,p,rfl,hq,k⟩:=h;refine⟨_,(aC (fH aK aR rfl) (aC (fH aK bf rfl) (aC (fH aK bF rfl) (ak (fH aK (bK dM) rfl))))),?_⟩;ac_rfl;rw[cY hq G.pG G.Em (by decide)];ac_rfl;rw[cY ao G.pG G.Hu (oX _ _)];rw[oW];ac_rfl;rw[cY ao G.pG G.Hv (sW _ _ _ _)];rw[oW];ac_rfl;refine⟨zero_le _,λo no=>?_⟩;have noq:o≠q:=λz=>by rw[z,ao] at no;cases no
 have lU:H o=none:=by rw[aO noq] at no;exact no
 rw[cY (a:=q) (dx:=dx) (C:=a.kj) (fs:=bA "given" (.ref g) (bA "place" (.int p) (bA "number" (.int n) []))) (by rw[aO (Ne.symm noq),ao]) G.pG G.yK (Te _ _ _ _ _ _)];refine k _ o ⟨dx,ao⟩ lU ?_ ?_
 ·rw[aO noq,ao]
 ·intro c u e nc;have n1:c≠q:=λz=>nc (by simp[z]);rw[aO n1,aO (aW e lU),aO n1];exact e
theorem make_st {n p:Nat}{ni pi:Int}{g:Addr}{H:Hp}{Q:Addr->Hp->Prop}(en:ni=n)(ep:pi=p)(k:∀(q o:Addr) (Z:Hp),H q=none->H o=none->aA H Z->KZ a Z q n p g o->Z o=some (.aB [])->Q q Z):
  ∀x dx,H x=none->H dx=none->dx≠x->Xz a (.ref x::[.int ni,.int pi,.ref g]) (aN (aN H dx (.own x)) x (.ins a.kj dx [])) (λv H2=>v=.non/\Q x H2) E0:=by
 intro x dx nx nd ne;subst en ep;refine⟨x,dx,g,n,p,rfl,ao,λZ o hS no ho b=>⟨rfl,?_⟩⟩;have n1:o≠x:=λz=>by rw[z,ao] at no;cases no
 have n2:o≠dx:=λz=>by rw[z,aO ne,ao] at no;cases no
 rw[aO n1,aO n2] at no;refine k x o Z nx no (λy u z=>?_) hS ho;have m1:y≠x:=aW z nx;have m2:y≠dx:=aW z nd;exact b y u (by rw[aO m1,aO m2];exact z) (by simp[m1])
structure Rc where
 q:Addr
 g:Addr
 o:Addr
 s:lA
structure RcAt (a:Ad)(H:Hp)(z:Rc):Prop where
 i:KZ a H z.q z.s.num z.s.at_ z.g z.o
 g:H z.g=some (.aB (vN z.s.given))
 o:H z.o=some (.aB (vN z.s.ops))
structure Mac (a:Ad)(H:Hp)(ws st:Addr)(X Y:List Rc):Prop where
 hw:H ws=some (.aB ((X.map λz=>V.ref z.q).reverse))
 hs:H st=some (.aB (Y.map λz=>V.ref z.q))
 ok:∀z∈X++Y,RcAt a H z
 ne:ws≠st
 far:∀z∈X++Y,z.g≠ws/\z.g≠st/\z.o≠ws/\z.o≠st
 gap:∀z∈X,∀y∈X++Y,z.o≠y.g
 two:X.Pairwise λz y=>z.o≠y.o
 old:∀z∈X,∀y∈Y,z.o≠y.o
 cnt:∀z∈X,z.s.ops.length<=Y.length
theorem RcAt.but {H Z:Hp}{z:Rc}{S:List Addr}(h:RcAt a H z)(b:But S H Z)(hS:∀p∈S,∃l,H p=some (.aB l))(n1:z.g∉S)(n2:z.o∉S):RcAt a Z z:=by
 obtain⟨dx,i⟩:=h.i;refine⟨⟨dx,b _ _ i λhz=>?_⟩,b _ _ h.g n1,b _ _ h.o n2⟩;obtain⟨l,e⟩:=hS _ hz;rw[i] at e;cases e
theorem Mac.pop {H Z:Hp}{ws st:Addr}{x:Rc}{X Y:List Rc}(h:Mac a H ws st (x::X) Y)(b:But [ws,st] H Z)(hw:Z ws=some (.aB ((X.map λz=>V.ref z.q).reverse)))(hs:Z st=some (.aB ((Y++[x]).map λz=>V.ref z.q))):Mac a Z ws st X (Y++[x]):=by
 have sub:∀z∈X++(Y++[x]),z∈(x::X)++Y:=by
  intro z hz;simp only[mem_append,mem_cons,not_mem_nil,or_false] at hz⊢;rcases hz with hz|hz|hz
  ·exact .inl (.inr hz)
  ·exact .inr hz
  ·exact .inl (.inl hz)
 refine⟨hw,hs,λz hz=>?_,h.ne,λz hz=>h.far z (sub z hz),λz hz y hy=>h.gap z (mem_cons_of_mem _ hz) y (sub y hy),(pairwise_cons.mp h.two).2,λz hz y hy=>?_,λz hz=>by have:=h.cnt z (mem_cons_of_mem _ hz);rw[length_append];lia⟩
 ·obtain⟨f1,f2,f3,f4⟩:=h.far z (sub z hz);refine(h.ok z (sub z hz)).but b (λp hp=>?_) (by simp[f1,f2]) (by simp[f3,f4]);simp only[mem_cons,not_mem_nil,or_false] at hp;rcases hp with rfl|rfl
  ·exact⟨_,h.hw⟩
  ·exact⟨_,h.hs⟩
 ·simp only[mem_append,mem_cons,not_mem_nil,or_false] at hy;rcases hy with hy|rfl
  ·exact h.old z (mem_cons_of_mem _ hz) y hy
  ·exact Ne.symm ((pairwise_cons.mp h.two).1 z hz)
def Rc.more (y:Rc)(n:Nat):Rc:=⟨y.q,y.g,y.o,⟨y.s.num,y.s.at_,y.s.given,y.s.ops++[n]⟩⟩
theorem Mac.more {H:Hp}{ws st:Addr}{y:Rc}{X Y:List Rc}(n:Nat)(h:Mac a H ws st (y::X) Y)(hc:y.s.ops.length<Y.length):Mac a (aN H y.o (.aB (vN y.s.ops++[.int n]))) ws st (y.more n::X) Y:=by
 have hy:=h.ok y (by simp);obtain⟨f1,f2,f3,f4⟩:=h.far y (by simp);have b:But [y.o] H (aN H y.o (.aB (vN y.s.ops++[.int n]))):=But.wrote;have hS:∀p∈[y.o],∃l,H p=some (.aB l):=λp hp=>by simp at hp;subst hp;exact⟨_,hy.o⟩
 refine⟨b _ _ h.hw (by simp[Ne.symm f3]),b _ _ h.hs (by simp[Ne.symm f4]),λz hz=>?_,h.ne,λz hz=>?_,λz hz u hu=>?_,?_,λz hz u hu=>?_,λz hz=>?_⟩
 ·have hz:z=y.more n\/z∈X++Y:=by simpa using hz
  rcases hz with rfl|hz
  ·obtain⟨dx,i⟩:=hy.i;refine⟨⟨dx,b _ _ i λhz=>?_⟩,b _ _ hy.g (by simp;exact Ne.symm (h.gap y (by simp) y (by simp))),?_⟩
   ·obtain⟨l,e⟩:=hS _ hz;have i:H (y.more n).q=_:=i;rw[i] at e;cases e
   ·show aN H y.o _ y.o=some (.aB (vN (y.s.ops++[n])));rw[ao,vN,vN,map_append];rfl
  ·refine(h.ok z (by simpa using .inr (by simpa using hz))).but b hS ?_ ?_
   ·simp;exact Ne.symm (h.gap y (by simp) z (by simpa using .inr (by simpa using hz)))
   ·simp;simp only[mem_append] at hz;rcases hz with hz|hz
    ·exact Ne.symm ((pairwise_cons.mp h.two).1 z hz)
    ·exact Ne.symm (h.old y (by simp) z hz)
 ·have hz:z=y.more n\/z∈X++Y:=by simpa using hz
  rcases hz with rfl|hz
  ·exact⟨f1,f2,f3,f4⟩
  ·exact h.far z (by simpa using .inr (by simpa using hz))
 ·have hu:u=y.more n\/u∈X++Y:=by simpa using hu
  have e1:∃z'∈y::X,z'.o=z.o:=by
   simp only[mem_cons] at hz;rcases hz with rfl|hz
   ·exact⟨y,by simp,rfl⟩
   ·exact⟨z,by simp[hz],rfl⟩
  obtain⟨z',m1,m2⟩:=e1;rw[<-m2];rcases hu with rfl|hu
  ·exact h.gap z' m1 y (by simp)
  ·exact h.gap z' m1 u (by simpa using .inr (by simpa using hu))
 ·have:=pairwise_cons.mp h.two;exact pairwise_cons.mpr ⟨λu hu=>this.1 u hu,this.2⟩
 ·simp only[mem_cons] at hz;rcases hz with rfl|hz
  ·exact h.old y (by simp) u hu
  ·exact h.old z (by simp[hz]) u hu
 ·simp only[mem_cons] at hz;rcases hz with rfl|hz
  ·show(y.s.ops++[n]).length<=Y.length;rw[length_append];exact hc
  ·exact h.cnt z (by simp[hz])
def cN (X:List Rc):List lA:=X.map Rc.s
inductive spMove (a:Ad)(vs:List V)(H:Hp)(Q:VK)(E:XK):Prop where
 |mk (ws st:Addr) (X Y:List Rc) (cI:vs=[.ref ws,.ref st]) (cJ:Mac a H ws st X Y) (cQ:X.length+Y.length<=600) (dH:∀(Z:Hp) (X' Y':List Rc),Mac a Z ws st X' Y'->Ps.move (cN X) (cN Y)=(cN X',cN Y')->(∀z∈X'++Y',∃y∈X++Y,y.o=z.o/\y.g=z.g)->(∀z∈X',∃y∈X,y.o=z.o)->X'.length+Y'.length=X.length+Y.length->But (ws::st::X.map Rc.o) H Z->Q .non Z)
theorem DP (G:aU K mg a):bI P w K mg aq "move_what_is_whole" a.qp 3 ["waiting","steps"] (spMove a):=G.Bh.bx λfd F=>by
 refine F.ok Al (λvs H Q E h=>?_) (λt A t s H vs Q E hr h=>?_)
 ·obtain⟨ws,st,X,Y,rfl,_⟩:=h;rfl
 obtain⟨ws,st,X,Y,rfl,hM,hl,q⟩:=h;refine⟨_,(ak (qU PassesOwn.never (PW.pt (Vf (qX aK (λt=>rfl)) (Py (bY (dD (cF bU (by rfl) G.fX PySem.boot_len (bG (aQ (aJ aH aK (nM j5 au) (λt t=>rfl)) rfl))) (aD (Fw G) (bG (aQ (aJ aH aK (nM j5 au) (λt t=>rfl)) rfl)))))))) (aC (eZ (iZ plainAttrs_list PySem.F.slot_list_append PySem.F.type_list_append gK aR (bG (pe_bm0 plainAttrs_list PySem.F.slot_list_pop PySem.F.type_list_pop mt_pop aK))))
   (ak (cC (qX aK (λt=>rfl)) (ak (eZ (iZ plainAttrs_list PySem.F.slot_list_append PySem.F.type_list_append gK (aQ (aJ aH aK (nM j5 au) (λt t=>rfl)) rfl) (bG (bD lF (cF bU (by rfl) G.fX PySem.boot_len (bG aR)) au))))) bN))))),?_⟩
 ac_rfl;refine qW (λσ Z=>σ=[some (.ref ws),some (.ref st)]/\∃X' Y':List Rc,Mac a Z ws st X' Y'/\Ps.move (cN X') (cN Y')=Ps.move (cN X) (cN Y)/\(∀z∈X'++Y',∃y∈X++Y,y.o=z.o/\y.g=z.g)/\(∀z∈X',∃y∈X,y.o=z.o)/\X'.length+Y'.length=X.length+Y.length/\But (ws::st::X.map Rc.o) H Z)
  (λσ Z=>match Z ws with|some (.aB ys)=>ys.length|_=>0) ⟨rfl,X,Y,hM,rfl,λz hz=>⟨z,hz,rfl,rfl⟩,λz hz=>⟨z,hz,rfl⟩,rfl,But.refl _ _⟩ ?_ ?_
 ·rintro σ H1 ⟨rfl,X',Y',Bx,hm,hsub,hsub2,hlen,b1⟩;ac_rfl;refine⟨_,bJ (aF.of Bx.hw),?_⟩;cases X' with
  |nil=>
   rw[if_neg (by simp)];exact q H1 [] Y' Bx (by rw[<-hm];unfold cN;rw[map_nil,Ps.move]) hsub hsub2 hlen b1
  |cons x X1=>
   rw[if_pos (by simp)];have hx:=Bx.ok x (by simp);have hw:=Bx.hw;rw[map_cons,reverse_cons] at hw;refine aL (aF.of hw) (L2.oE _ _) ?_;rw[vJ G hx.i];refine⟨_,_,rfl,.inl (aF.of hx.o),?_⟩;refine aL (aF.of hw) (L2.oE _ _) ?_;rw[jA G hx.i];refine⟨x.s.num,rfl,_,_,rfl,rfl,?_⟩;have ell:(vN x.s.ops).length=x.s.ops.length:=by rw[vN,length_map]
   rw[ell];by_cases hfull:x.s.ops.length=jH x.s.num
   ·rw[if_pos (by rw[hfull])];have Z6:=Ps.RL (W:=cN X1) (st:=cN Y') hfull;obtain⟨f1,f2,f3,f4⟩:=Bx.far x (by simp);refine⟨.inl ⟨rfl,_,aF.of Bx.hs⟩,.inl ⟨rfl,_,aF.of hw⟩,ws,_,.ref x.q,rfl,rfl,hw,by simp,?_⟩;rw[List.dropLast_concat];refine⟨st,_,_,rfl,rfl,(by rw[aO (Ne.symm Bx.ne)];exact Bx.hs),?_,?_⟩
    ·rw[length_map];have big:600+1<=sizeLine:=by decide
     lia
    have b2:But [ws,st] H1 (aN (aN H1 ws (.aB (X1.map λz=>V.ref z.q).reverse)) st (.aB ((Y'.map λz=>V.ref z.q)++[.ref x.q]))):=by
     intro c u e n;simp only[mem_cons,not_mem_nil,or_false,not_or] at n;rw[aO n.2,aO n.1];exact e
    have hw2:aN (aN H1 ws (.aB (X1.map λz=>V.ref z.q).reverse)) st (.aB ((Y'.map λz=>V.ref z.q)++[.ref x.q])) ws=some (.aB (X1.map λz=>V.ref z.q).reverse):=by rw[aO Bx.ne,ao]
    have hs2:aN (aN H1 ws (.aB (X1.map λz=>V.ref z.q).reverse)) st (.aB ((Y'.map λz=>V.ref z.q)++[.ref x.q])) st=some (.aB ((Y'++[x]).map λz=>V.ref z.q)):=by rw[ao,map_append];rfl
    generalize aN (aN H1 ws (.aB (X1.map λz=>V.ref z.q).reverse)) st (.aB ((Y'.map λz=>V.ref z.q)++[.ref x.q]))=H2 at b2 hw2 hs2⊢;have eU:=Bx.pop b2 hw2 hs2;have hsub':∀z∈X1++(Y'++[x]),∃y∈X++Y,y.o=z.o/\y.g=z.g:=λz hz=>hsub z (by
     simp only[mem_append,mem_cons,not_mem_nil,or_false] at hz⊢;rcases hz with hz|hz|hz
     ·exact .inl (.inr hz)
     ·exact .inr hz
     ·exact .inl (.inl hz))
    have hlen':X1.length+(Y'++[x]).length=X.length+Y.length:=by rw[length_append];simp at hlen⊢;lia
    have b2':But (ws::st::X.map Rc.o) H H2:=b1.trans (b2.mono (by intro z hz;simp only[mem_cons,not_mem_nil,or_false] at hz⊢;rcases hz with rfl|rfl<;>simp))
    refine⟨_,bJ (aF.of hw2),?_⟩
    have mu:(match H1 ws with|some (HO.aB ys)=>ys.length|x=>0)=X1.length+1:=by rw[hw];simp
    rw[mu];cases X1 with
    |nil=>
     rw[if_neg (by simp)];refine⟨⟨[],Y'++[x],eU,?_,hsub',λz hz=>absurd hz (by simp),hlen',b2'⟩,?_⟩
     ·rw[<-hm];show Ps.move [] (cN (Y'++[x]))=Ps.move (x.s::cN []) (cN Y');rw[Z6];show Ps.move [] (cN (Y'++[x]))=([],cN Y'++[x.s]);rw[Ps.move];unfold cN;rw[map_append];rfl
     ·rw[hw2];simp
    |cons y X2=>
     rw[if_pos (by simp)];have hw2':=hw2;rw[map_cons,reverse_cons] at hw2';have hy:=eU.ok y (by simp);refine aL (aF.of hw2') (L2.oE _ _) ?_;rw[vJ G hy.i];have uq:=eU.more Y'.length (by have:=Bx.cnt y (by simp);rw[length_append];simp;lia);obtain⟨g1,g2,g3,g4⟩:=eU.far y (by simp);have eY:(((Y'++[x]).map λz=>V.ref z.q).length:Int)-1=(Y'.length:Nat):=by rw[length_map,length_append];simp
     refine⟨.inl ⟨rfl,_,aF.of hy.o⟩,st,_,rfl,.inl (aF.of hs2),y.o,_,_,rfl,rfl,hy.o,?_,?_⟩
     ·have:=Bx.cnt y (by simp);have big:600+1<=sizeLine:=by decide
      rw[vN,length_map];lia
     rw[eY];refine⟨⟨y.more Y'.length::X2,Y'++[x],uq,?_,?_,?_,hlen',?_⟩,?_⟩
     ·rw[<-hm];show Ps.move ((y.more Y'.length).s::cN X2) (cN (Y'++[x]))=Ps.move (x.s::cN (y::X2)) (cN Y');rw[Z6];show _=Ps.move (⟨y.s.num,y.s.at_,y.s.given,y.s.ops++[(cN Y').length]⟩::cN X2) (cN Y'++[x.s]);unfold cN;rw[map_append,length_map];rfl
     ·intro z hz;have hz:z=y.more Y'.length\/z∈X2++(Y'++[x]):=by simpa using hz
      rcases hz with rfl|hz
      ·exact hsub' y (by simp)
      ·exact hsub' z (by simpa using .inr (by simpa using hz))
     ·intro z hz;simp only[mem_cons] at hz;rcases hz with rfl|hz
      ·exact hsub2 y (by simp)
      ·exact hsub2 z (by simp[hz])
     ·refine b2'.trans ((But.wrote (p:=y.o)).mono λz hz=>?_);simp at hz;subst hz;obtain⟨u,hu,eu⟩:=hsub2 y (by simp);simp only[mem_cons,mem_map];exact .inr (.inr ⟨u,hu,eu⟩)
     ·rw[aO (Ne.symm g3),hw2];simp
   ·rw[if_neg (by lia)];have Z6:=Ps.yr (W:=cN X1) (st:=cN Y') hfull;exact q H1 (x::X1) Y' Bx (by rw[<-hm];exact Z6) hsub hsub2 hlen b1
 ·intro σ Z Q Q' hQ hc;obtain⟨v,hv,k,O,q'⟩:=hc;refine⟨v,hv,k,O,?_⟩;cases k with
  |false=>exact hQ _ _ q'
  |true=>
   obtain⟨v2,hv2,a1,xs1,i1,y1,e1,e2,h1,h2,a3,C3,dx3,fs3,v3,e3,h3,h4,h5,h6,p4,ys4,e4,h7,q'⟩:=q';obtain⟨v5,hv5,a6,xs6,i6,y6,e6,e7,h8,h9,a7,C7,dx7,fs7,v7,e8,g1,g2,g3,g4,n8,e9,i9,j9,e10,e11,q'⟩:=q';obtain⟨i0,j0,e00,e01,c0,e02,q'⟩:=q';exact⟨v2,hv2,a1,xs1,i1,y1,e1,e2,h1,h2,a3,C3,dx3,fs3,v3,e3,h3,h4,h5,h6,p4,ys4,e4,h7,v5,hv5,a6,xs6,i6,y6,e6,e7,h8,h9,a7,C7,dx7,fs7,v7,e8,g1,g2,g3,g4,n8,e9,i9,j9,e10,e11,i0,j0,e00,e01,c0,e02,hQ _ _ q'⟩
theorem tOr_not {i j:Nat}{σ:L2.St}{H:Hp}{v u:V}{k l:Bool}{Q:Bool->Hp->Prop}(e1:σ[i]? =some (some v))(t1:FW K v H k)(e2:σ[j]? =some (some u))(t2:FW K u H l)(q:Q (k|| !l) H):
  tOr (λσ H Q=>∃v,σ[i]? =some (some v)/\∃k,FW K v H k/\Q k H) (tNot λσ H Q=>∃v,σ[j]? =some (some v)/\∃k,FW K v H k/\Q k H) σ H Q:=by
 refine⟨v,e1,k,t1,?_⟩;cases k with
 |true=>exact q
 |false=>exact⟨u,e2,l,t2,q⟩
theorem Mac.push {H Z:Hp}{ws st:Addr}{X Y:List Rc}{r:Rc}(h:Mac a H ws st X Y)(s:aA H Z)(hr:RcAt a Z r)(ng:H r.g=none)(no:H r.o=none)(hgo:r.o≠r.g)(hnil:r.s.ops=[]):Mac a (aN Z ws (.aB ((X.map λz=>V.ref z.q).reverse++[.ref r.q]))) ws st (r::X) Y:=by
 have b:But [ws] Z (aN Z ws (.aB ((X.map λz=>V.ref z.q).reverse++[.ref r.q]))):=But.wrote;have hS:∀p∈[ws],∃l,Z p=some (.aB l):=λp hp=>by simp at hp;subst hp;exact⟨_,s _ _ h.hw⟩
 have gw:r.g≠ws:=λz=>by rw[z,h.hw] at ng;cases ng
 have gs:r.g≠st:=λz=>by rw[z,h.hs] at ng;cases ng
 have ow:r.o≠ws:=λz=>by rw[z,h.hw] at no;cases no
 have os:r.o≠st:=λz=>by rw[z,h.hs] at no;cases no
 refine⟨by rw[ao,map_cons,reverse_cons],b _ _ (s _ _ h.hs) (by simp[Ne.symm h.ne]),λz hz=>?_,h.ne,λz hz=>?_,λz hz u hu=>?_,?_,λz hz u hu=>?_,λz hz=>?_⟩
 ·have hz:z=r\/z∈X++Y:=by simpa using hz
  rcases hz with rfl|hz
  ·exact hr.but b hS (by simp[gw]) (by simp[ow])
  ·obtain⟨f1,f2,f3,f4⟩:=h.far z hz;exact((h.ok z hz).but (S:=[]) s.but (λp hp=>absurd hp (by simp)) (by simp) (by simp)).but b hS (by simp[f1]) (by simp[f3])
 ·have hz:z=r\/z∈X++Y:=by simpa using hz
  rcases hz with rfl|hz
  ·exact⟨gw,gs,ow,os⟩
  ·exact h.far z hz
 ·have hu:u=r\/u∈X++Y:=by simpa using hu
  simp only[mem_cons] at hz;rcases hz with rfl|hz
  ·rcases hu with rfl|hu
   ·exact hgo
   ·exact λe=>by have:=(h.ok u hu).g;rw[<-e,no] at this;cases this
  ·rcases hu with rfl|hu
   ·exact λe=>by have:=(h.ok z (by simp[hz])).o;rw[e,ng] at this;cases this
   ·exact h.gap z hz u hu
 ·exact pairwise_cons.mpr ⟨λu hu e=>(by have:=(h.ok u (by simp[hu])).o;rw[<-e,no] at this;cases this),h.two⟩
 ·simp only[mem_cons] at hz;rcases hz with rfl|hz
  ·exact λe=>by have:=(h.ok u (by simp[hu])).o;rw[<-e,no] at this;cases this
  ·exact h.old z hz u hu
 ·simp only[mem_cons] at hz;rcases hz with rfl|hz
  ·have e:z.s.ops.length=0:=by rw[hnil];rfl
   lia
  ·exact h.cnt z hz
inductive spRead (a:Ad)(vs:List V)(H:Hp)(Q:VK)(E:XK):Prop where
 |mk (nb st:Addr) (b:List Nat) (k:Nat) (cI:vs=[.ref nb,.int k,.ref st]) (cJ:k<=16) (cQ:b.length<=600) (dH:nb≠st) (fC:H nb=some (.aB (vN b))) (gF:H st=some (.aB [])) (iQ:(∀f Z,GridTalk.parse k b=.error f->But [st] H Z->Z st≠none->Q (.int (f:Nat)) Z)) (kE:∀t Z Y,GridTalk.parse k b=.ok t->cN Y=Ps.post 0 t->Y.length<=512->Z st=some (.aB (Y.map λz=>V.ref z.q))->(∀z∈Y,RcAt a Z z/\H z.g=none/\H z.o=none)->But [st] H Z->Q .non Z)
theorem XC (G:aU K mg a):bI P w K mg aq "read_steps" a.Hf 4 ["numbers","matrices","steps"] (spRead a):=G.Uc.bx λfd F=>by
 have M_Step:=@d_Step P w K mg aq a G;refine F.ok j7 (λvs H Q E h=>?_) (λm A m s H vs Q E hr h=>?_)
 ·obtain⟨nb,st,b,k,rfl,_⟩:=h;rfl
 obtain⟨nb,st,b,k,rfl,O,hb,hne,hn,hs,q1,q2⟩:=h;have eb:(vN b).length=b.length:=by rw[vN,length_map]
 refine⟨_,(aC (cC (bY (Mw (cF bU (by rfl) G.fX PySem.boot_len (bG aK)) (bL rfl G.Hs))) (ak (aG (bL rfl G.Hs))) bN)
   (aC (aX 3 j7.nd au) (aC (aX 4 j7.nd (bK dM)) (aC (qU PassesOwn.never (PW.pt (pw_or (qX cM (λm=>rfl)) (pw_or1 (mY (qX bf (λm=>rfl)))))) (aC (cC (bY (dD bF (cF bU (by rfl) G.fX PySem.boot_len (bG aK)))) (ak (aG bF)) bN)
   (aC (cC (mY (iG (aD (Mt G) (bC (aJ aH aK bF (λm m=>rfl)) (bB aR (cF bU (by rfl) G.fX PySem.boot_len (bG cM))))))) (ak (aG bF)) bN)
   (aC (aX 5 j7.nd (bD jD (bD jD bF au) (aD (Mr G) (bG (aJ aH aK bF (λm m=>rfl)))))) (aC (cC (bY (Mw iV (cF bU (by rfl) G.fX PySem.boot_len (bG aK)))) (ak (aG (cF bU (by rfl) G.fX PySem.boot_len (bG aK)))) bN)
   (aC (eZ (iZ plainAttrs_list PySem.F.slot_list_append PySem.F.type_list_append gK cM (bG (iC M_Step (bC (aJ aH aK bF (λm m=>rfl)) (bB bF (qY vM aK (je (bD jD bF au)) (je iV)))))))) (aC (eZ (aD (DP G) (bB cM bf))) (ak (aX 3 j7.nd iV)))))))))
   (ak (aG (iB (bY (pL bF (cF bU (by rfl) G.fX PySem.boot_len (bG aK)))) bF mX))))))),?_⟩
 ac_rfl;refine⟨nb,_,rfl,.inl (aF.of hn),?_⟩;rw[eb];ac_rfl;by_cases h512:512<b.length
 ·rw[if_pos (by lia)];refine q1 512 H ?_ (But.refl _ _) (by rw[hs];intro z;cases z);unfold GridTalk.parse;rw[if_pos (show GridTalk.LONG<b.length from h512)];rfl
 rw[if_neg (by lia)];refine⟨by decide,λws nw=>?_⟩;have nws:ws≠st:=λz=>by rw[z,hs] at nw;cases nw
 have nwn:ws≠nb:=λz=>by rw[z,hn] at nw;cases nw
 have s1:aA H (aN H ws (.aB [])):=aA.laid nw;have hM:Mac a (aN H ws (.aB [])) ws st [] []:=⟨ao,s1 _ _ hs,λz hz=>absurd hz (by simp),nws,λz hz=>absurd hz (by simp),λz hz=>absurd hz (by simp),.nil,λz hz=>absurd hz (by simp),λz hz=>absurd hz (by simp)⟩;have hn1:=s1 _ _ hn;have b1:But [st] H (aN H ws (.aB [])):=s1.but;generalize aN H ws (.aB [])=H1 at s1 hM hn1 b1⊢;refine qW (λσ Z=>∃(p:Nat) (v:Option V) (X Y:List Rc),σ=[some (.ref nb),some (.int k),some (.ref st),some (.int p),some (.ref ws),v]/\Mac a Z ws st X Y/\Z nb=some (.aB (vN b))/\Ps.run k b p (cN X) (cN Y)=Ps.run k b 0 [] []/\p<=b.length/\X.length+Y.length<=p/\(∀z∈X++Y,H z.g=none/\H z.o=none)/\But [st] H Z)
  (λσ Z=>match σ[3]? with|some (some (V.int z))=>b.length-z.toNat|_=>0) ⟨0,none,[],[],rfl,hM,hn1,rfl,by lia,by simp,λz hz=>absurd hz (by simp),b1⟩ ?_ ?_
 ·rintro σ H2 ⟨p,v,X,Y,rfl,eU,hn2,hrun,hp,hl2,hfr,b2⟩;refine tOr_not rfl (bJ (aF.of eU.hw)) rfl (bJ (aF.of eU.hs)) ?_;have hP:=Ps.run_parse O (b:=b) (by lia);rw[<-hrun] at hP;by_cases live:X=[]/\Y≠[]
  ·obtain⟨rfl,hY⟩:=live;rw[if_neg (by cases Y with|nil=>exact absurd rfl hY|cons y Y=>simp)];ac_rfl;refine⟨nb,_,rfl,.inl (aF.of hn2),?_⟩;rw[eb];have hrn:Ps.run k b p (cN []) (cN Y)=if p<b.length then(some p,cN Y) else(none,cN Y):=by
    rw[Ps.run,if_pos ⟨rfl,λz=>hY (by unfold cN at z;exact List.map_eq_nil_iff.mp z)⟩]
   rw[hrn] at hP;by_cases hpl:p<b.length
   ·rw[if_pos (by lia)];rw[if_pos hpl] at hP;cases e:GridTalk.parse k b with
    |error f=>rw[e] at hP;injection hP with hP;subst hP;exact q1 _ _ e b2 (by rw[eU.hs];intro z;cases z)
    |ok t=>rw[e] at hP;injection hP with hP _;cases hP
   ·rw[if_neg (by lia)];rw[if_neg hpl] at hP;cases e:GridTalk.parse k b with
    |error f=>rw[e] at hP;cases hP
    |ok t=>rw[e] at hP;injection hP with _ hP;exact q2 t H2 Y e hP (by simp at hl2;lia) eU.hs (λz hz=>⟨eU.ok z (by simpa using hz),hfr z (by simpa using hz)⟩) b2
  ·rw[if_pos (by
    cases X with
    |cons x X=>simp
    |nil=>cases Y with
     |nil=>simp
     |cons y Y=>exact absurd ⟨rfl,by simp⟩ live)]
   have live':¬(cN X=[]/\cN Y≠[]):=λ⟨z1,z2⟩=>live ⟨by unfold cN at z1;exact List.map_eq_nil_iff.mp z1,λz=>z2 (by rw[z];rfl)⟩;ac_rfl;refine⟨nb,_,rfl,.inl (aF.of hn2),?_⟩;rw[eb];by_cases hpe:p=b.length
   ·rw[if_pos (by lia)];rw[Ps.run,if_neg live',dif_neg (by lia)] at hP;cases e:GridTalk.parse k b with
    |error f=>rw[e] at hP;injection hP with hP;subst hP;exact q1 _ _ e b2 (by rw[eU.hs];intro z;cases z)
    |ok t=>rw[e] at hP;injection hP with hP _;cases hP
   rw[if_neg (by lia)];have hpl:p<b.length:=by lia
   have hat:(vN b)[p]? =some (.int (b[p]:Nat)):=by rw[vN,getElem?_map,getElem?_eq_getElem hpl];rfl
   rw[Ps.run,if_neg live',dif_pos hpl] at hP;have O9:=hrun;rw[Ps.run,if_neg live',dif_pos hpl] at O9;generalize hc:b[p]=c at*;have eW:(cN X).length=X.length:=by unfold cN;rw[length_map]
   rw[eW] at hP O9;refine aL (aF.of hn2) (dU hat) ⟨ws,_,rfl,.inl (aF.of eU.hw),c,k,X.length,?_,?_⟩
   ·rw[List.length_reverse,length_map]
   refine⟨_,rfl,?_⟩;by_cases Kz:begins k X.length c=true
   ·rw[Kz,if_neg (by decide)];rw[if_pos Kz] at hP O9;refine aL (aF.of hn2) (dU hat) ⟨c,rfl,?_⟩;ac_rfl;refine⟨nb,_,rfl,.inl (aF.of hn2),?_⟩;rw[eb];ac_rfl;by_cases Jg:b.length<p+1+GridTalk.numbers c
    ·rw[if_pos (by lia)];refine⟨nb,_,rfl,.inl (aF.of hn2),?_⟩;rw[eb];rw[if_pos Jg] at hP;cases e:GridTalk.parse k b with
     |error f=>rw[e] at hP;injection hP with hP;subst hP;exact q1 _ _ e b2 (by rw[eU.hs];intro z;cases z)
     |ok t=>rw[e] at hP;injection hP with hP _;cases hP
    ·rw[if_neg (by lia)];rw[if_neg Jg] at O9;refine⟨.inl ⟨rfl,_,aF.of eU.hw⟩,aL (aF.of hn2) (dU hat) ?_⟩;ac_rfl;refine⟨nb,_,rfl,aF.of hn2,λg ng=>?_⟩;rw[rA (vN b) (i:=p+1) (n:=GridTalk.numbers c) (by lia) (by lia) (by rw[eb];lia)];have eg:((vN b).drop (p+1)).take (GridTalk.numbers c)=vN ((b.drop (p+1)).take (GridTalk.numbers c)):=by rw[vN,vN,map_take,map_drop]
     rw[eg];have s3:aA H2 (aN H2 g (.aB (vN ((b.drop (p+1)).take (GridTalk.numbers c))))):=aA.laid ng;have hg3:aN H2 g (.aB (vN ((b.drop (p+1)).take (GridTalk.numbers c)))) g=some (.aB (vN ((b.drop (p+1)).take (GridTalk.numbers c)))):=ao;generalize aN H2 g (.aB (vN ((b.drop (p+1)).take (GridTalk.numbers c))))=H3 at s3 hg3⊢;refine make_st (n:=c) (p:=p) rfl rfl λx o H4 nx no s4 hx ho=>?_;have hgo:o≠g:=λz=>by rw[z,hg3] at no;cases no
     have BJ:H2 o=none:=s3.free no;have hM4:=eU.push (r:=⟨x,g,o,⟨c,p,(b.drop (p+1)).take (GridTalk.numbers c),[]⟩⟩) (s3.trans s4) ⟨hx,s4 _ _ hg3,ho⟩ ng BJ hgo rfl;have hl4:((X.map λz=>V.ref z.q).reverse).length<sizeLine:=by
      rw[List.length_reverse,length_map];exact cD (by lia)
     refine⟨ws,_,_,rfl,rfl,s4 _ _ (s3 _ _ eU.hw),hl4,?_⟩;have w5:But [ws] H4 (aN H4 ws (.aB ((X.map λz=>V.ref z.q).reverse++[.ref x]))):=But.wrote;have hM5:Mac a (aN H4 ws (.aB ((X.map λz=>V.ref z.q).reverse++[.ref x]))) ws st _ Y:=hM4;clear hM4;generalize aN H4 ws (.aB ((X.map λz=>V.ref z.q).reverse++[.ref x]))=H5 at w5 hM5⊢;have fr:∀z,H2 z=none->z≠st->H z=none:=λz hz nz=>by
      cases e:H z with
      |none=>rfl
      |some u=>rw[b2 _ _ e (by simp[nz])] at hz;cases hz
     have ngs:g≠st:=λz=>by rw[z,eU.hs] at ng;cases ng
     have nos:o≠st:=λz=>by rw[z,eU.hs] at BJ;cases BJ
     have hfr5:∀z∈(⟨x,g,o,⟨c,p,(b.drop (p+1)).take (GridTalk.numbers c),[]⟩⟩:Rc)::X++Y,H z.g=none/\H z.o=none:=by
      intro z hz;have hz:z=⟨x,g,o,⟨c,p,(b.drop (p+1)).take (GridTalk.numbers c),[]⟩⟩\/z∈X++Y:=by simpa using hz
      rcases hz with rfl|hz
      ·exact⟨fr g ng ngs,fr o BJ nos⟩
      ·exact hfr z hz
     refine⟨ws,st,_,Y,rfl,hM5,(by rw[length_cons];lia),λH6 X6 Y6 hM6 Z6 hsub hsub2 hlen b6=>?_⟩;have hfr6:∀z∈X6++Y6,H z.g=none/\H z.o=none:=λz hz=>by
      obtain⟨y,hy,e1,e2⟩:=hsub z hz;have:=hfr5 y (by simpa using hy);rw[e1,e2] at this;exact this
     have b5:But [st] H H5:=λz u e n=>w5 _ _ (s4 _ _ (s3 _ _ (b2 _ _ e n))) (by simp;exact λe2=>by rw[e2,nw] at e;cases e);have b6':But [st] H H6:=λz u e n=>by
      refine b6 _ _ (b5 _ _ e n) λhz=>?_;simp only[mem_cons,mem_map] at hz;rcases hz with rfl|rfl|⟨y,hy,rfl⟩
      ·rw[nw] at e;cases e
      ·simp at n
      ·have hy2:y∈(⟨x,g,o,⟨c,p,(b.drop (p+1)).take (GridTalk.numbers c),[]⟩⟩:Rc)::X++Y:=by simp only[List.cons_append,mem_cons,mem_append];rcases hy with rfl|hy;exact .inl rfl;exact .inr (.inl hy)
       rw[(hfr5 y hy2).2] at e;cases e
     rw[length_cons] at hlen;refine⟨⟨p+1+GridTalk.numbers c,_,X6,Y6,by simp;rfl,hM6,b6' _ _ hn (by simp[hne]),?_,by lia,by lia,hfr6,b6'⟩,by lia⟩;rw[<-O9];have hmv':Ps.move (⟨c,p,(b.drop (p+1)).take (GridTalk.numbers c),[]⟩::cN X) (cN Y)=(cN X6,cN Y6):=Z6;rw[hmv']
   ·have Kz:begins k X.length c=false:=by simpa using Kz
    rw[Kz,if_pos (by decide)];rw[Kz,if_neg (by decide)] at hP;cases e:GridTalk.parse k b with
    |error f=>rw[e] at hP;injection hP with hP;subst hP;exact q1 _ _ e b2 (by rw[eU.hs];intro z;cases z)
    |ok t=>rw[e] at hP;injection hP with hP _;cases hP
 ·intro σ Z Q Q' hQ hc;obtain⟨v,hv,k,O,q'⟩:=hc;refine⟨v,hv,k,O,?_⟩;cases k with
  |true=>exact hQ _ _ q'
  |false=>
   obtain⟨v2,hv2,k2,hk2,q'⟩:=q';exact⟨v2,hv2,k2,hk2,hQ _ _ q'⟩
def xV (p t nb st sz gr:Addr):List (Str×V):=bA "grids" (.ref gr) (bA "sizes" (.ref sz) (bA "steps" (.ref st) (bA "numbers" (.ref nb) (bA "table" (.ref t) (bA "arithmetic" (.ref p) [])))))
theorem exF_a (p t nb st sz gr:Addr):(xV p t nb st sz gr).lookup ("arithmetic":Str)=some (.ref p):=by
 unfold xV;rw[aP,if_neg (by decide+kernel),aP,if_neg (by decide+kernel),aP,if_neg (by decide+kernel),aP,if_neg (by decide+kernel),aP,if_neg (by decide+kernel),aP,if_pos rfl]
theorem exF_t (p t nb st sz gr:Addr):(xV p t nb st sz gr).lookup ("table":Str)=some (.ref t):=by
 unfold xV;rw[aP,if_neg (by decide+kernel),aP,if_neg (by decide+kernel),aP,if_neg (by decide+kernel),aP,if_neg (by decide+kernel),aP,if_pos rfl]
theorem exF_n (p t nb st sz gr:Addr):(xV p t nb st sz gr).lookup ("numbers":Str)=some (.ref nb):=by
 unfold xV;rw[aP,if_neg (by decide+kernel),aP,if_neg (by decide+kernel),aP,if_neg (by decide+kernel),aP,if_pos rfl]
theorem exF_st (p t nb st sz gr:Addr):(xV p t nb st sz gr).lookup ("steps":Str)=some (.ref st):=by
 unfold xV;rw[aP,if_neg (by decide+kernel),aP,if_neg (by decide+kernel),aP,if_pos rfl]
theorem exF_sz (p t nb st sz gr:Addr):(xV p t nb st sz gr).lookup ("sizes":Str)=some (.ref sz):=by
 unfold xV;rw[aP,if_neg (by decide+kernel),aP,if_pos rfl]
theorem exF_gr (p t nb st sz gr:Addr):(xV p t nb st sz gr).lookup ("grids":Str)=some (.ref gr):=by
 unfold xV;rw[aP,if_pos rfl]
theorem exF_no (p t nb st sz gr:Addr){m:Str}(h:∀f∈(["arithmetic","table","numbers","steps","sizes","grids"]:List Str),m≠f):(xV p t nb st sz gr).lookup m=none:=by
 unfold xV;rw[aP,if_neg (h _ (by simp)),aP,if_neg (h _ (by simp)),aP,if_neg (h _ (by simp)),aP,if_neg (h _ (by simp)),aP,if_neg (h _ (by simp)),aP,if_neg (h _ (by simp))];rfl
def fQ (a:Ad)(H:Hp)(x p t nb st sz gr:Addr):Prop:=∃dx,H x=some (.ins a.aZ dx (xV p t nb st sz gr))
theorem fQ.same {H Z:Hp}{x p t nb st sz gr:Addr}(h:fQ a H x p t nb st sz gr)(s:aA H Z):fQ a Z x p t nb st sz gr:=let ⟨dx,z⟩:=h;⟨dx,s _ _ z⟩
section
variable {H:Hp}{x p t nb st sz gr:Addr}{Q:VK}
theorem XD (G:aU K mg a)(h:fQ a H x p t nb st sz gr):gn K "arithmetic" (.ref x) H Q↔Q (.ref p) H:=by
 obtain⟨dx,z⟩:=h;exact dJ z G.bZ G.mH (exF_a ..)
theorem DQ (G:aU K mg a)(h:fQ a H x p t nb st sz gr):gn K "table" (.ref x) H Q↔Q (.ref t) H:=by
 obtain⟨dx,z⟩:=h;exact dJ z G.bZ G.tQ (exF_t ..)
theorem x_num (G:aU K mg a)(h:fQ a H x p t nb st sz gr):gn K "numbers" (.ref x) H Q↔Q (.ref nb) H:=by
 obtain⟨dx,z⟩:=h;exact dJ z G.bZ G.qu (exF_n ..)
theorem x_st (G:aU K mg a)(h:fQ a H x p t nb st sz gr):gn K "steps" (.ref x) H Q↔Q (.ref st) H:=by
 obtain⟨dx,z⟩:=h;exact dJ z G.bZ G.tR (exF_st ..)
theorem x_sz (G:aU K mg a)(h:fQ a H x p t nb st sz gr):gn K "sizes" (.ref x) H Q↔Q (.ref sz) H:=by
 obtain⟨dx,z⟩:=h;exact dJ z G.bZ G.tU (exF_sz ..)
theorem x_gr (G:aU K mg a)(h:fQ a H x p t nb st sz gr):gn K "grids" (.ref x) H Q↔Q (.ref gr) H:=by
 obtain⟨dx,z⟩:=h;exact dJ z G.bZ G.tV (exF_gr ..)
theorem Tf {m:Str}(h:fQ a H x p t nb st sz gr)(hm:∀f∈(["arithmetic","table","numbers","steps","sizes","grids"]:List Str),m≠f){k:Prop}:rM a.aZ m (.ref x) H k↔k:=by
 obtain⟨dx,z⟩:=h;exact rM_at z (exF_no _ _ _ _ _ _ hm)
end
inductive XF (a:Ad)(vs:List V)(H:Hp)(Q:VK)(E:XK):Prop where
 |mk (x dx p t nb:Addr) (cI:vs=[.ref x,.ref p,.ref t,.ref nb]) (cJ:H x=some (.ins a.aZ dx [])) (cQ:∀(Z:Hp) (st sz gr:Addr),fQ a Z x p t nb st sz gr->H st=none->H sz=none->H gr=none->st≠sz->st≠gr->sz≠gr->Z st=some (.aB [])->Z sz=some (.aB [])->Z gr=some (.aB [])->But [x] H Z->Q .non Z)
theorem putF4_len (f g h i:Str)(x y z u:V):(bA f x (bA g y (bA h z (bA i u [])))).length<1000:=by
 have h1:=cO f x (bA g y (bA h z (bA i u [])));have h2:=cO g y (bA h z (bA i u []));have h3:=cO h z (bA i u []);have h4:=cO i u [];simp at h4;lia
theorem putF5_len (f g h i j:Str)(x y z u v:V):(bA f x (bA g y (bA h z (bA i u (bA j v []))))).length<1000:=by
 have h1:=cO f x (bA g y (bA h z (bA i u (bA j v []))));have h2:=cO g y (bA h z (bA i u (bA j v [])));have h3:=cO h z (bA i u (bA j v []));have h4:=cO i u (bA j v []);have h5:=cO j v [];simp at h5;lia
theorem XH (G:aU K mg a):Nm P w K mg aq "Expression" a.aZ 1 ["self","arithmetic","table","numbers"] (XF a):=G.HS.bx λfd F=>by
 refine F.ok GP (λvs H Q E h=>?_) (λy A y s H vs Q E hr h=>?_)
 ·obtain⟨x,dx,p,t,nb,rfl,_⟩:=h;rfl
 obtain⟨x,dx,p,t,nb,rfl,hx,q⟩:=h;refine⟨_,(aC (fH aK aR rfl) (aC (fH aK bf rfl) (aC (fH aK bF rfl) (aC (fH aK (bK dM) rfl) (aC (fH aK (bK dM) rfl) (ak (fH aK (bK dM) rfl))))))),?_⟩;ac_rfl;rw[cY hx G.bZ G.mH (by decide)];ac_rfl;rw[cY ao G.bZ G.tQ (oX _ _)];rw[oW];ac_rfl;rw[cY ao G.bZ G.qu (sW _ _ _ _)];rw[oW];have b1:But [x] H (aN H x (.ins a.aZ dx (bA "numbers" (.ref nb) (bA "table" (.ref t) (bA "arithmetic" (.ref p) []))))):=But.wrote;have h1:aN H x (.ins a.aZ dx (bA "numbers" (.ref nb) (bA "table" (.ref t) (bA "arithmetic" (.ref p) [])))) x=some (.ins a.aZ dx (bA "numbers" (.ref nb) (bA "table" (.ref t) (bA "arithmetic" (.ref p) [])))):=ao;have f1:∀z,aN H x (.ins a.aZ dx (bA "numbers" (.ref nb) (bA "table" (.ref t) (bA "arithmetic" (.ref p) [])))) z=none->z≠x/\H z=none:=λz hz=>by
  have n:z≠x:=λe=>by rw[e,ao] at hz;cases hz
  rw[aO n] at hz;exact⟨n,hz⟩
 generalize aN H x (.ins a.aZ dx (bA "numbers" (.ref nb) (bA "table" (.ref t) (bA "arithmetic" (.ref p) []))))=H1 at b1 h1 f1⊢;ac_rfl;refine⟨zero_le _,λst nst=>?_⟩;obtain⟨nsx,nst0⟩:=f1 _ nst;rw[cY (a:=x) (by rw[aO (Ne.symm nsx)];exact h1) G.bZ G.tR (Te _ _ _ _ _ _)];have h2:aN (aN H1 st (.aB [])) x (.ins a.aZ dx (bA "steps" (.ref st) (bA "numbers" (.ref nb) (bA "table" (.ref t) (bA "arithmetic" (.ref p) []))))) x=some (.ins a.aZ dx (bA "steps" (.ref st) (bA "numbers" (.ref nb) (bA "table" (.ref t) (bA "arithmetic" (.ref p) []))))):=ao;have l2:aN (aN H1 st (.aB [])) x (.ins a.aZ dx (bA "steps" (.ref st) (bA "numbers" (.ref nb) (bA "table" (.ref t) (bA "arithmetic" (.ref p) []))))) st=some (.aB []):=by rw[aO nsx,ao]
 have b2:But [x] H1 (aN (aN H1 st (.aB [])) x (.ins a.aZ dx (bA "steps" (.ref st) (bA "numbers" (.ref nb) (bA "table" (.ref t) (bA "arithmetic" (.ref p) [])))))):=λc u e n=>by
  rw[aO (by simpa using n),aO (aW e nst)];exact e
 have f2:∀z,aN (aN H1 st (.aB [])) x (.ins a.aZ dx (bA "steps" (.ref st) (bA "numbers" (.ref nb) (bA "table" (.ref t) (bA "arithmetic" (.ref p) []))))) z=none->z≠st/\z≠x/\H z=none:=λz hz=>by
  have n:z≠x:=λe=>by rw[e,ao] at hz;cases hz
  have n2:z≠st:=λe=>by rw[e,l2] at hz;cases hz
  rw[aO n,aO n2] at hz;exact⟨n2,f1 _ hz⟩
 generalize aN (aN H1 st (.aB [])) x (.ins a.aZ dx (bA "steps" (.ref st) (bA "numbers" (.ref nb) (bA "table" (.ref t) (bA "arithmetic" (.ref p) [])))))=H2 at b2 h2 l2 f2⊢;ac_rfl;refine⟨zero_le _,λsz nsz=>?_⟩;obtain⟨nzs,nzx,nsz0⟩:=f2 _ nsz;rw[cY (a:=x) (by rw[aO (Ne.symm nzx)];exact h2) G.bZ G.tU (putF4_len _ _ _ _ _ _ _ _)];ac_rfl;refine⟨zero_le _,λgr XJ=>?_⟩;have ngx:gr≠x:=λe=>by rw[e,ao] at XJ;cases XJ
 rw[aO ngx] at XJ;have ngz:gr≠sz:=λe=>by rw[e,ao] at XJ;cases XJ
 rw[aO ngz] at XJ;obtain⟨ngs,_,ngr0⟩:=f2 _ XJ;rw[cY (a:=x) (by rw[aO (Ne.symm ngx),ao]) G.bZ G.tV (putF5_len _ _ _ _ _ _ _ _ _ _)];refine q _ st sz gr ⟨dx,ao⟩ nst0 nsz0 ngr0 (Ne.symm nzs) (Ne.symm ngs) (Ne.symm ngz) ?_ ?_ ?_ ?_
 ·rw[aO nsx,aO (Ne.symm ngs),aO nsx,aO (Ne.symm nzs)];exact l2
 ·rw[aO nzx,aO (Ne.symm ngz),aO nzx,ao]
 ·rw[aO ngx,ao]
 ·intro c u e n;have n':c≠x:=by simpa using n
  have e2:=b2 _ _ (b1 _ _ e n) n;rw[aO n',aO (aW e ngr0),aO n',aO (aW e nsz0)];exact e2
theorem make_ex {p t nb:Addr}{H:Hp}{Q:Addr->Hp->Prop}(k:∀(x st sz gr:Addr) (Z:Hp),H x=none->aA H Z->fQ a Z x p t nb st sz gr->H st=none->H sz=none->H gr=none->st≠sz->st≠gr->sz≠gr->Z st=some (.aB [])->Z sz=some (.aB [])->Z gr=some (.aB [])->Q x Z):
  ∀x dx,H x=none->H dx=none->dx≠x->XF a (.ref x::[.ref p,.ref t,.ref nb]) (aN (aN H dx (.own x)) x (.ins a.aZ dx [])) (λv H2=>v=.non/\Q x H2) E0:=by
 intro x dx nx nd ne;have fr:∀o,aN (aN H dx (.own x)) x (.ins a.aZ dx []) o=none->H o=none:=λo no=>by
  have n1:o≠x:=λz=>by rw[z,ao] at no;cases no
  have n2:o≠dx:=λz=>by rw[z,aO ne,ao] at no;cases no
  rw[aO n1,aO n2] at no;exact no
 refine⟨x,dx,p,t,nb,rfl,ao,λZ st sz gr hx n1 n2 n3 d1 d2 d3 l1 l2 l3 b=>⟨rfl,k x st sz gr Z nx (λy u z=>?_) hx (fr _ n1) (fr _ n2) (fr _ n3) d1 d2 d3 l1 l2 l3⟩⟩;have m1:y≠x:=aW z nx;have m2:y≠dx:=aW z nd;exact b y u (by rw[aO m1,aO m2];exact z) (by simp[m1])
theorem mD {α β:Type}{R:α->β->Prop}:∀{xs:List α}{ys:List β}{i:Nat}{x:α}{y:β},Paired R xs ys->xs[i]? =some x->ys[i]? =some y->R x y
 |_,_,_,_,_,.nil,h,_=>by cases h
 |_,_,0,_,_,.cons r _,h,g=>by injection h with h;injection g with g;subst h g;exact r
 |_,_,i+1,_,_,.cons _ t,h,g=>mD (i:=i) t h g
theorem getD_some {α:Type}{l:List α}{i:Nat}(d:α)(h:i<l.length):l[i]? =some (l.getD i d):=by
 rw[getD_eq_getElem?_getD,getElem?_eq_getElem h];rfl
theorem zU {α β:Type}{R:α->β->Prop}{xs:List α}{ys:List β}(h:Paired R xs ys)(d:α)(e:β):∀(ops:List Nat),(∀o∈ops,o<ys.length)->Paired R (ops.map λo=>xs.getD o d) (ops.map λo=>ys.getD o e)
 |[],_=>.nil
 |o::ops,ho=>.cons (mD (i:=o) h (getD_some d (by rw[Paired.length h];exact ho o (by simp))) (getD_some e (ho o (by simp)))) (zU h d e ops λo' h'=>ho o' (by simp[h']))
theorem Tg (ts:List Addr)(d:Addr)(ops:List Nat):((range ops.length).map λi=>(ops[i]?.map λo=>V.ref (ts.getD o d)).getD .non)=(ops.map λo=>ts.getD o d).map V.ref:=by
 rw[tZ,map_map];rfl
theorem XM {n pl:Nat}{d:Nd}(h:Pq.Cz n d):∀o∈(raw (pl,d)).ops,o<n:=by
 cases d with
 |leaf l=>intro o ho;cases ho
 |one o i=>
  intro o' ho;have e:o'=i:=by simpa[raw] using ho
  subst e;exact h
 |two o i j=>
  intro o' ho;have e:o'=i\/o'=j:=by simpa[raw] using ho
  rcases e with rfl|rfl
  ·exact h.1
  ·exact h.2
theorem XQ {pl:Nat}{d:Nd}(h:fm (raw (pl,d)).num=false):∃k0,d=.leaf (.table k0):=by
 cases d with
 |leaf l=>
  cases l with
  |table k=>exact⟨k,rfl⟩
  |_=>cases h
 |one o i=>cases o<;>cases h
 |two o i j=>cases o<;>cases h
structure Bk (a:Ad)(H:Hp)(p tl:Addr)(k m:Nat)(A:Arith)(tab:List Mat):Prop where
 ar:dO a H p k m
 ha:arith k m=some A
 hm:m<18446744073709551616
 tb:∃ts:List Addr,H tl=some (.aB (ts.map V.ref))/\Paired (yO a H []) ts tab
 le:tab.length<=16
theorem yO.same {H Z:Hp}{av:List Addr}{q:Addr}{M:Mat}(h:yO a H av q M)(s:aA H Z):yO a Z av q M:=by
 obtain⟨e,l,h1,h2,h3⟩:=h.ex;exact⟨⟨e,l,h1.same s,s _ _ h2,h3⟩,h.r1,h.r2,h.c1,h.c2⟩
theorem Bk.same {H Z:Hp}{p tl:Addr}{k m:Nat}{A:Arith}{tab:List Mat}(h:Bk a H p tl k m A tab)(s:aA H Z):Bk a Z p tl k m A tab:=by
 obtain⟨ts,h1,h2⟩:=h.tb;exact⟨h.ar.same s,h.ha,h.hm,⟨ts,s _ _ h1,d8 (λq M z=>z.same s) h2⟩,h.le⟩
theorem Bk.XR {H:Hp}{p tl:Addr}{k m:Nat}{A:Arith}{tab:List Mat}(h:Bk a H p tl k m A tab):∀M∈tab,Vl.TF M:=by
 obtain⟨ts,_,h4⟩:=h.tb;intro M hM;obtain⟨q,hq⟩:=Paired.right h4 M hM;exact hq.tf
theorem Bk.at_ {H:Hp}{p tl:Addr}{k m:Nat}{A:Arith}{tab:List Mat}(h:Bk a H p tl k m A tab){j:Nat}(hj:j<tab.length):∃(ts:List Addr) (q:Addr),H tl=some (.aB (ts.map V.ref))/\(ts.map V.ref)[j]? =some (.ref q)/\yO a H [] q (tab.getD j noMat):=by
 obtain⟨ts,h1,h2⟩:=h.tb;have hl:=Paired.length h2;have hj':j<ts.length:=by lia
 refine⟨ts,ts[j],h1,by rw[getElem?_map,getElem?_eq_getElem hj'];rfl,?_⟩;have e:tab.getD j noMat=tab[j]:=by rw[getD_eq_getElem?_getD,getElem?_eq_getElem hj];rfl
 rw[e];exact mD h2 (getElem?_eq_getElem hj') (getElem?_eq_getElem hj)
theorem aA.Mv {H0 H Z:Hp}{S:List Addr}(s:aA H0 H)(b:But S H Z)(n:∀z∈S,H0 z=none):aA H0 Z:=λc u e=>b _ _ (s _ _ e) λhz=>by rw[n _ hz] at e;cases e
def yZ (H:Hp)(sz:Addr)(zs:List Size):Prop:=∃ts:List Addr,H sz=some (.aB (ts.map V.ref))/\Paired (iJ H) ts zs
theorem JM {T k:Nat}(h:k<T)(hT:T<=16):fm k=false:=by
 unfold fm;simp only[Bool.or_eq_false_iff,beq_eq_false_iff_ne,decide_eq_false_iff_not];lia
theorem sz_case {mi:Bool}{tab:List Mat}{zs:List Size}{d:Nd}{pl:Nat}(hz:∀s∈zs,Vl.kZ s)(hop:Pq.Cz zs.length d)(hnd:Pq.wF tab.length d)(le:tab.length<=16)(hf:fm (raw (pl,d)).num=true):
  nJ mi (raw (pl,d)).num (raw (pl,d)).given ((raw (pl,d)).ops.map λo=>zs.getD o (0,0)) (dN (pW (tab.map λ(x:Mat)=>(x.rows,x.cols))) (pB mi) (pC mi) zs d):=by
 cases d with
 |leaf l=>
  cases l with
  |table k=>
   have h1:fm k=false:=JM (T:=tab.length) hnd le;have hf:fm k=true:=hf;rw[h1] at hf;cases hf
  |zeros r c=>exact nJ.leaf (.zeros r c) (by intro k h;cases h)
  |unit n=>exact nJ.leaf (.unit n) (by intro k h;cases h)
  |lit v=>exact nJ.leaf (.lit v) (by intro k h;cases h)
 |one o i=>
  have e:zs[i]? =some (zs.getD i (0,0)):=getD_some _ hop;have e2:dN (pW (tab.map λ(x:Mat)=>(x.rows,x.cols))) (pB mi) (pC mi) zs (.one o i)=pB mi o (zs.getD i (0,0)):=by
   simp only[dN,e]
  rw[e2];exact nJ.one o _ (hz _ (mem_of_getElem? e))
 |two o i j=>
  have e:zs[i]? =some (zs.getD i (0,0)):=getD_some _ hop.1;have e':zs[j]? =some (zs.getD j (0,0)):=getD_some _ hop.2;have e2:dN (pW (tab.map λ(x:Mat)=>(x.rows,x.cols))) (pB mi) (pC mi) zs (.two o i j)=pC mi o (zs.getD i (0,0)) (zs.getD j (0,0)):=by
   simp only[dN,e,e']
  rw[e2];exact nJ.two o _ _ (hz _ (mem_of_getElem? e)) (hz _ (mem_of_getElem? e'))
theorem KZ.same {H Z:Hp}{q:Addr}{n p:Nat}{g o:Addr}(h:KZ a H q n p g o)(s:aA H Z):KZ a Z q n p g o:=let ⟨dx,z⟩:=h;⟨dx,s _ _ z⟩
theorem RcAt.same {H Z:Hp}{z:Rc}(h:RcAt a H z)(s:aA H Z):RcAt a Z z:=⟨h.i.same s,s _ _ h.g,s _ _ h.o⟩
inductive spSzSt (a:Ad)(vs:List V)(H:Hp)(Q:VK)(E:XK):Prop where
 |mk (x p tl nb st sz gr:Addr) (k m:Nat) (A:Arith) (tab:List Mat) (zs:List Size) (z:Rc) (pl:Nat) (d:Nd) (cI:vs=[.ref x,.ref z.q]) (cJ:fQ a H x p tl nb st sz gr) (cQ:Bk a H p tl k m A tab) (dH:yZ H sz zs) (fC:(∀s∈zs,Vl.kZ s)) (gF:RcAt a H z) (iQ:z.s=raw (pl,d)) (kE:Pq.Cz zs.length d) (ud:Pq.wF tab.length d) (Bm:SzOut H (dN (pW (tab.map λ(x:Mat)=>(x.rows,x.cols))) (pB A.minus.isSome) (pC A.minus.isSome) zs d) Q)
theorem Q7 (G:aU K mg a):v9 P w K mg aq a.aZ "size_of_step" 4 ["self","step"] (spSzSt a):=G.uO.bx G.bZ λfd F=>by
 refine F.ok fL (λvs H Q E h=>?_) (λy A y s H vs Q E hr h=>?_)
 ·obtain⟨x,p,tl,nb,st,sz,gr,k,m,A,tab,zs,z,pl,d,rfl,_⟩:=h;rfl
 obtain⟨x,p,tl,nb,st,sz,gr,k,m,A,tab,zs,z,pl,d,rfl,hx,hB,hz,xW,hR,hs,hop,hnd,q⟩:=h;refine⟨_,(aC (cC (iG (aD (fD G) (bG (aQ aR rfl)))) (aC (aX 2 fL.nd (aJ aH (aQ aK rfl) (aQ aR rfl) (λy y=>rfl))) (ak (aG (jE (bB (aQ bf rfl) (aQ bf rfl)))))) bN) (aC (Ci (i:=3) (own:=[("operand",4)]) rfl fL.nd rfl rfl (Ji rfl rfl rfl rfl) (fj (aQ aR rfl)) (eG (N:=["self","step","matrix","sizes","operand"]) (sc:=bV (cu (aM 139) 2)) (by decide+kernel)) (λy y y y y=>(bM (i:=4) fL.nd rfl (Or.inl rfl))) (λy y y y y=>gj) (λy y y y y=>(aJ (VD (K:=K) rfl) (z7 (K:=K) rfl aK rfl) cM (λy y=>rfl))))
   (ak (aG (aD (Fv G) (bC (aQ aR rfl) (bC (aQ aK rfl) (bB (aQ aR rfl) bF)))))))),?_⟩
 simp_arith! [jA G hR.i,DQ G hx];refine⟨z.s.num,rfl,_,rfl,?_⟩;cases hf:fm z.s.num with
 |false=>
  rw[if_pos (by decide)];rw[hs] at hf;obtain⟨k0,rfl⟩:=XQ hf;have hk0:k0<tab.length:=hnd;obtain⟨ts,qm,t1,t2,t3⟩:=hB.at_ hk0;obtain⟨e,l,g1,_⟩:=t3.ex;rw[DQ G hx,jA G hR.i];have en:z.s.num=k0:=by rw[hs];rfl
  rw[en];refine aL (aF.of t1) (dU t2) ?_;rw[oO G g1,mz G g1];refine⟨by decide,λt nt=>q.2 _ t _ (show some ((tab.map λ(x:Mat)=>(x.rows,x.cols)).getD k0 (0,0))=some _ by rw[Vl.tD tab hk0]) (aA.laid nt) ao⟩
 |true=>
  rw[if_neg (by decide)];rw[vJ G hR.i];obtain⟨ts,hz1,hz2⟩:=hz;have hlen:ts.length=zs.length:=Paired.length hz2;have ho:=hR.o;rw[hs] at ho;have hol:=XM (pl:=pl) hop;refine⟨z.o,rfl,⟨_,aF.of ho⟩,RB (λi=>((raw (pl,d)).ops[i]?.map λo=>V.ref (ts.getD o x)).getD .non) (aF.of ho) ?_ (λv=>rfl) ?_ ?_⟩
  ·rw[length_map];refine cD ?_;cases d<;>simp[raw]
  ·intro i v Z N hv s1 hN;obtain⟨o,rfl,ho'⟩:=xu hv;simp_arith! [x_sz G (hx.same s1)];have hlt:o<ts.length:=by rw[hlen];exact hol o (mem_of_getElem? ho')
   refine aL (aF.of (s1 _ _ hz1)) (dU (v:=.ref (ts.getD o x)) (by rw[getElem?_map,getD_some x hlt];rfl)) ?_;have:=hN Z (aA.refl _);rw[ho'] at this;exact this
  ·intro D Z nD s1 hD;rw[length_map,Tg] at hD;have BK:=hR.same s1;rw[jA G BK.i,XD G (hx.same s1),Q6 G BK.i];have hg:=BK.g;rw[hs] at hg;rw[hs] at hf⊢;refine⟨_,p,z.g,D,k,m,A,_,_,_,_,rfl,hB.ar.same s1,hB.ha,hg,hD,zU (d8 (λq M z=>s1 _ _ z) hz2) x (0,0) _ hol,sz_case xW hop hnd hB.le hf,λhn H2 s2=>q.1 hn H2 (s1.trans s2),λz2 t H2 uo s2 h2=>q.2 z2 t H2 uo (s1.trans s2) h2⟩
def IK (a:Ad)(av:List Addr)(H:Hp)(st:Addr)(IV:List (Nat×Nd)):Prop:=∃Y:List Rc,H st=some (.aB (Y.map λz=>V.ref z.q))/\(∀z∈Y,RcAt a H z/\z.g∉av/\z.o∉av)/\cN Y=IV.map raw/\Y.length<=512
theorem IK.but {av S:List Addr}{H Z:Hp}{st:Addr}{IV:List (Nat×Nd)}(h:IK a av H st IV)(b:But S H Z)(hS:∀p∈S,∃l,H p=some (.aB l))(hav:∀p∈S,p∈av)(hst:st∉S):IK a av Z st IV:=by
 obtain⟨Y,h1,h2,h3⟩:=h;exact⟨Y,b _ _ h1 hst,λz hz=>⟨(h2 z hz).1.but b hS (λe=>(h2 z hz).2.1 (hav _ e)) λe=>(h2 z hz).2.2 (hav _ e),(h2 z hz).2⟩,h3⟩
theorem IK.same {av:List Addr}{H Z:Hp}{st:Addr}{IV:List (Nat×Nd)}(h:IK a av H st IV)(s:aA H Z):IK a av Z st IV:=h.but (S:=[]) s.but (λp hp=>absurd hp (by simp)) (λp hp=>absurd hp (by simp)) (by simp)
theorem yZ.but {S:List Addr}{H Z:Hp}{sz:Addr}{zs:List Size}(h:yZ H sz zs)(b:But S H Z)(hS:∀p∈S,∃l,H p=some (.aB l))(n:sz∉S):yZ Z sz zs:=by
 obtain⟨ts,h1,h2⟩:=h;refine⟨ts,b _ _ h1 n,d8 (λq z e=>b _ _ e λhq=>?_) h2⟩;obtain⟨l,e2⟩:=hS _ hq;have e:H q=_:=e;rw[e2] at e;cases e
theorem yZ.same {H Z:Hp}{sz:Addr}{zs:List Size}(h:yZ H sz zs)(s:aA H Z):yZ Z sz zs:=h.but (S:=[]) s.but (λp hp=>absurd hp (by simp)) (by simp)
theorem fQ.but {S:List Addr}{H Z:Hp}{x p t nb st sz gr:Addr}(h:fQ a H x p t nb st sz gr)(b:But S H Z)(hS:∀p∈S,∃l,H p=some (.aB l)):fQ a Z x p t nb st sz gr:=by
 obtain⟨dx,z⟩:=h;refine⟨dx,b _ _ z λhq=>?_⟩;obtain⟨l,e2⟩:=hS _ hq;rw[e2] at z;cases z
abbrev qO (A:Arith)(tab:List Mat):=dN (pW (tab.map λ(x:Mat)=>(x.rows,x.cols))) (pB A.minus.isSome) (pC A.minus.isSome)
theorem shape_work (A:Arith)(tab:List Mat)(t:GridTalk.Tree):match work (qO A tab) (aV 0 t) [] with
  | .error f=>t.shape A.minus.isSome (tab.map λ(x:Mat)=>(x.rows,x.cols))=.error f
  | .ok zs=>∃z,zs.getLast? =some z/\t.shape A.minus.isSome (tab.map λ(x:Mat)=>(x.rows,x.cols))=.ok z:=by
 have h:=Ps.Wh (pW (tab.map λ(x:Mat)=>(x.rows,x.cols))) (pB A.minus.isSome) (pC A.minus.isSome) t;rw[Ps.vB];cases e:Ps.fold (pW (tab.map λ(x:Mat)=>(x.rows,x.cols))) (pB A.minus.isSome) (pC A.minus.isSome) t with
 |error f=>rw[e] at h;rw[h]
 |ok z=>
  rw[e] at h;obtain⟨zs,h1,h2,h3⟩:=h;rw[h3];exact⟨z,h2,rfl⟩
theorem Q8 {Y:List Rc}{IV:List (Nat×Nd)}(h:cN Y=IV.map raw){i:Nat}{v:V}(hv:(Y.map λz=>V.ref z.q)[i]? =some v):∃z s,z∈Y/\v=.ref z.q/\IV[i]? =some s/\z.s=raw s:=by
 rw[getElem?_map] at hv;obtain⟨z,hz,rfl⟩:=map_eq_some_iff.mp hv;have e:=congrArg (λl=>l[i]?) h;simp only[cN,getElem?_map,hz] at e;have e2:(IV[i]?).map raw=some z.s:=e.symm;obtain⟨s,hs,e3⟩:=map_eq_some_iff.mp e2;exact⟨z,s,mem_of_getElem? hz,rfl,hs,e3.symm⟩
theorem XS (s:Nat×Nd):(raw s).at_=s.1:=by
 obtain⟨p,d⟩:=s;cases d<;>rfl
inductive Z7 (a:Ad)(vs:List V)(H:Hp)(Q:VK)(E:XK):Prop where
 |mk (x p tl nb st sz gr:Addr) (k m:Nat) (A:Arith) (tab:List Mat) (b:List Nat) (H0:Hp) (av:List Addr) (cI:vs=[.ref x]) (cJ:fQ a H x p tl nb st sz gr) (cQ:Bk a H0 p tl k m A tab) (dH:aA H0 H) (fC:H0 st=none) (gF:H0 sz=none) (iQ:H0 nb=some (.aB (vN b))) (kE:b.length<=600) (ud:(∀z∈b,z<18446744073709551616)) (Bm:st≠sz) (zP:H st=some (.aB [])) (Ii:H sz=some (.aB [])) (Xd:(∀z∈av,H z≠none)) (h13_:sz∈av) (h14_:(∀f l Z,GridTalk.parse tab.length b=.error f->But [st,sz] H Z->H l=none->Z l=some (.aB [.int (-3),.int (f:Nat)])->Q (.ref l) Z)) (h15_:(∀t f l Z,GridTalk.parse tab.length b=.ok t->t.shape A.minus.isSome (tab.map λ(x:Mat)=>(x.rows,x.cols))=.error f->But [st,sz] H Z->H l=none->Z l=some (.aB [.int (-4),.int (f:Nat)])->Q (.ref l) Z)) (h16_:∀t z zs l Z,GridTalk.parse tab.length b=.ok t->t.shape A.minus.isSome (tab.map λ(x:Mat)=>(x.rows,x.cols))=.ok z->zs.getLast? =some z->work (qO A tab) (aV 0 t) []=.ok zs->(∀s∈zs,Vl.kZ s)->IK a av Z st (aV 0 t)->yZ Z sz zs->But [st,sz] H Z->H l=none->Z l=some (.aB [])->Q (.ref l) Z)
theorem BL (G:aU K mg a):v9 P w K mg aq a.aZ "judge" 5 ["self"] (Z7 a):=G.Fp.bx G.bZ λfd F=>by
 refine F.ok jd (λvs H Q E h=>?_) (λy A y s H vs Q E hr h=>?_)
 ·obtain⟨x,p,tl,nb,st,sz,gr,k,m,A,tab,b,H0,av,rfl,_⟩:=h;rfl
 obtain⟨x,p,tl,nb,st,sz,gr,k,m,A,tab,b,H0,av,rfl,hx,hB,s0,n1,n2,hn,hb,hb64,hne,hst,hsz,hav,hsa,q1,q2,q3⟩:=h;refine⟨_,(aC (aX 1 jd.nd (aD (XC G) (bC (aQ aK rfl) (bB (cF bU (by rfl) G.fX PySem.boot_len (bG (aQ aK rfl))) (aQ aK rfl)))))
   (aC (cC (bY (YX aR)) (ak (aG (bK (bB (bL rfl G.TX) aR)))) bN) (aC (fB PassesOwn.never rfl (fj (aQ aK rfl)) (bM (i:=2) jd.nd rfl (Or.inl rfl)) (aC (aX 3 jd.nd (wg (Q7 G) aK (bG bf))) (aC (cC (bY (sI bF)) (ak (aG (bK (bB (bL rfl G.Hq) (aQ bf rfl))))) bN) (ak (eZ (iZ plainAttrs_list PySem.F.slot_list_append PySem.F.type_list_append gK (aQ aK rfl) (bG bF))))))) (ak (aG (bK dM)))))),?_⟩
 simp_arith! [eH,mL,MF,x_num G hx,DQ G hx,x_st G hx];have hnb:=s0 _ _ hn;obtain⟨tls,htl,hmat⟩:=(hB.same s0).tb;refine⟨tl,_,rfl,.inl (aF.of htl),nb,st,b,tab.length,?_,hB.le,hb,?_,hnb,hst,?_,?_⟩
 ·rw[length_map,Paired.length hmat]
 ·intro e;rw[e,n1] at hn;cases hn
 ·intro f H1 hp b1 hs1;simp_arith! [eH,mL,MF];rw[if_neg (by intro z;cases z)];refine⟨by decide,λl nl=>?_⟩;have nls:l≠st:=λe=>by rw[e] at nl;exact hs1 nl
  refine q1 f l _ hp (λc u e n=>?_) ?_ ao
  ·rw[aO (aW (b1 _ _ e (by simp at n⊢;exact n.1)) nl)];exact b1 _ _ e (by simp at n⊢;exact n.1)
  ·cases e:H l with
   |none=>rfl
   |some u=>rw[b1 _ _ e (by simp[nls])] at nl;cases nl
 ·intro t H1 Y hp hY hYl hs1 Ew b1;simp_arith! [eH,mL,MF];rw[if_pos trivial];have hpt:=Pq.wG t (Vl.Cu hp) (Vl.vo hb64 hp) 0;have hlt:=Pq.wD t 0;have hw:=shape_work A tab t;have Pa:cN Y=(aV 0 t).map raw:=by rw[hY,Ps.wB]
  have hlY:Y.length=(aV 0 t).length:=by have:=congrArg length Pa;unfold cN at this;rwa[length_map,length_map] at this
  have hsz1:=b1 _ _ hsz (by simp[Ne.symm hne]);have hS1:∀p∈[st],∃l,H p=some (.aB l):=λp hp=>by simp at hp;subst hp;exact⟨_,hst⟩
  have hx1:=hx.but b1 hS1;rw[x_st G hx1];have hSt:IK a av H1 st (aV 0 t):=⟨Y,hs1,λz hz=>⟨(Ew z hz).1,λe=>hav _ e (Ew z hz).2.1,λe=>hav _ e (Ew z hz).2.2⟩,Pa,hYl⟩;have s1:aA H0 H1:=aA.Mv s0 b1 λz hz=>by simp at hz;subst hz;exact n1
  refine⟨st,rfl,⟨_,aF.of hs1⟩,iU (K:=K) (a:=st) (xs:=Y.map λz=>V.ref z.q) (λi σ Z=>But [sz] H1 Z/\(∃zs,yZ Z sz zs/\zs.length=i/\(∀s∈zs,Vl.kZ s)/\work (qO A tab) ((aV 0 t).drop i) zs=work (qO A tab) (aV 0 t) [])/\∃v1 v2,σ=[some (.ref x),some .non,v1,v2]) ⟨But.refl _ _,⟨[],⟨[],hsz1,.nil⟩,rfl,λs hs=>absurd hs (by simp),rfl⟩,none,none,rfl⟩ (λi σ Z _ q=>q.1.seq (aF.of hs1) (by simp[hne])) ?_ ?_⟩
  ·rintro i v σ H2 hv ⟨b2,⟨zs,hz2,Vu,xW,hwk⟩,v1,v2,rfl⟩;obtain⟨z,sd,Pb,rfl,hsd,hzs⟩:=Q8 Pa hv;obtain⟨pl,d⟩:=sd;have hS2:∀p∈[sz],∃l,H1 p=some (.aB l):=λp hp=>by simp at hp;subst hp;exact⟨_,hsz1⟩
   have hx2:=hx1.but b2 hS2;have s2:aA H0 H2:=aA.Mv s1 b2 λz hz=>by simp at hz;subst hz;exact n2
   have hR:RcAt a H2 z:=(Ew z Pb).1.but b2 hS2 (λe=>hav sz hsa (by have:=(Ew z Pb).2.1;simp at e;rw[<-e];exact this)) (λe=>hav sz hsa (by have:=(Ew z Pb).2.2;simp at e;rw[<-e];exact this));have hil:i<(aV 0 t).length:=(List.getElem?_eq_some_iff.mp hsd).1;have hnd:=hpt _ (mem_of_getElem? hsd);have hop:Pq.Cz zs.length d:=by
    have:=hlt i _ hsd;rw[Nat.zero_add, <-Vu] at this;exact this
   have BP:=Pq.RQ (stp:=qO A tab) (acc:=zs) hsd;simp_arith! [mL,Tf hx2 (show∀f∈(["arithmetic","table","numbers","steps","sizes","grids"]:List Str),(Str.ofString "size_of_step")≠f by decide+kernel)];have fr:∀c,H2 c=none->H c=none:=λc hc=>by
    cases e:H c with
    |none=>rfl
    |some u=>
     by_cases e1:c=st
     ·rw[e1,b2 _ _ hs1 (by simp[hne])] at hc;cases hc
     ·by_cases e2:c=sz
      ·obtain⟨ts,g,_⟩:=hz2;rw[e2,g] at hc;cases hc
      ·rw[b2 _ _ (b1 _ _ e (by simp[e1])) (by simp[e2])] at hc;cases hc
   have bb:But [st,sz] H H2:=λc u e n=>by
    simp only[mem_cons,not_mem_nil,or_false,not_or] at n;exact b2 _ _ (b1 _ _ e (by simp[n.1])) (by simp[n.2])
   refine⟨x,p,tl,nb,st,sz,gr,k,m,A,tab,zs,z,pl,d,rfl,hx2,hB.same s2,hz2,xW,hR,hzs,hop,hnd,λhno H3 s3=>?_,λz3 t3 H3 uo s3 ht3=>?_⟩
   ·rw[hwk] at BP;rw[show qO A tab zs (pl,d).2=none from hno] at BP;have BP:work (qO A tab) (aV 0 t) []=.error pl:=BP;rw[BP] at hw;rw[if_pos rfl,Mu G (hR.same s3).i];refine⟨by decide,λl nl=>?_⟩;have e:z.s.at_=pl:=by rw[hzs];exact XS _
    refine q2 t pl l _ hp hw (λc u e n=>?_) (fr _ (s3.free nl)) (by rw[ao,e]);rw[aO (aW (s3 _ _ (bb _ _ e n)) nl)];exact s3 _ _ (bb _ _ e n)
   ·try dsimp only
    rw[if_neg (by intro z;cases z),x_sz G (hx2.same s3)];obtain⟨ts,g1,g2⟩:=hz2;have hlz:ts.length=zs.length:=Paired.length g2;refine⟨.inl ⟨rfl,_,aF.of (s3 _ _ g1)⟩,sz,_,_,rfl,rfl,s3 _ _ g1,?_,?_,⟨zs++[z3],⟨ts++[t3],?_,?_⟩,?_,?_,?_⟩,_,_,rfl⟩
    ·rw[length_map];exact cD (by lia)
    ·exact b2.trans (s3.but.trans But.wrote)
    ·rw[ao,map_append];rfl
    ·have nt:∀q z,iJ H3 q z->q≠sz:=λq z e e2=>by
      have e:H3 q=_:=e;rw[e2,s3 _ _ g1] at e;cases e
     refine Paired.snoc (d8 (λq z e=>?_) g2) ?_
     ·have e':iJ H3 q z:=s3 _ _ e;show aN H3 sz _ q=_;rw[aO (nt _ _ e')];exact e'
     ·show aN H3 sz _ t3=_;rw[aO (nt _ _ ht3)];exact ht3
    ·rw[length_append,Vu];rfl
    ·intro s hs;rw[mem_append] at hs;rcases hs with hs|hs
     ·exact xW s hs
     ·have e:=mem_singleton.mp hs;subst e;exact Pq.nstp_sz hB.XR xW hnd uo
    ·rw[<-hwk,BP];rw[show qO A tab zs (pl,d).2=some z3 from uo]
  ·rintro σ H2 ⟨b2,⟨zs,hz2,Vu,xW,hwk⟩,v1,v2,rfl⟩;ac_rfl;rw[length_map,hlY] at Vu hwk;rw[List.drop_length] at hwk;have hwk:(Except.ok zs:Except Nat (List Size))=work (qO A tab) (aV 0 t) []:=hwk;rw[<-hwk] at hw;obtain⟨z,uo,Xv⟩:=hw;have hS2:∀p∈[sz],∃l,H1 p=some (.aB l):=λp hp=>by simp at hp;subst hp;exact⟨_,hsz1⟩
   have hSt2:=hSt.but b2 hS2 (λp hp=>by simp at hp;subst hp;exact hsa) (by simp[hne]);refine⟨by decide,λl nl=>?_⟩;have bb:But [st,sz] H H2:=λc u e n=>by
    simp only[mem_cons,not_mem_nil,or_false,not_or] at n;exact b2 _ _ (b1 _ _ e (by simp[n.1])) (by simp[n.2])
   have s4:aA H2 (aN H2 l (.aB [])):=aA.laid nl;refine q3 t z zs l _ hp Xv uo hwk.symm xW (hSt2.same s4) (hz2.same s4) (bb.trans s4.but) ?_ ao;cases e:H l with
   |none=>rfl
   |some u=>
    by_cases e1:l=st
    ·rw[e1,b2 _ _ hs1 (by simp[hne])] at nl;cases nl
    ·by_cases e2:l=sz
     ·obtain⟨ts,g,_⟩:=hz2;rw[e2,g] at nl;cases nl
     ·rw[b2 _ _ (b1 _ _ e (by simp[e1])) (by simp[e2])] at nl;cases nl
abbrev xNames:List Str:=["arithmetic","table","numbers","steps","sizes","grids"]
inductive Z8 (a:Ad)(vs:List V)(H:Hp)(Q:VK)(E:XK):Prop where
 |mk (x p tl nb st sz gr:Addr) (zs:List Size) (z:Size) (cI:vs=[.ref x]) (cJ:fQ a H x p tl nb st sz gr) (cQ:yZ H sz zs) (dH:zs.getLast? =some z) (fC:∀t,iJ H t z->Q (.ref t) H)
theorem uw (G:aU K mg a):v9 P w K mg aq a.aZ "size" 1 ["self"] (Z8 a):=G.HW.bx G.bZ λfd F=>by
 refine F.ok GQ (λvs H Q E h=>?_) (λy A y s H vs Q E hr h=>?_)
 ·obtain⟨x,p,tl,nb,st,sz,gr,zs,z,rfl,_⟩:=h;rfl
 obtain⟨x,p,tl,nb,st,sz,gr,zs,z,rfl,hx,⟨ts,h1,h2⟩,hl,q⟩:=h;refine⟨_,(ak (aG (aJ aH (aQ aK rfl) (nM j5 au) (λy y=>rfl)))),?_⟩;simp_arith! [x_sz G hx];rw[List.getLast?_eq_getElem?] at hl;have hpos:0<zs.length:=by
  cases zs with
  |nil=>cases hl
  |cons z zs=>simp
 have hlen:ts.length=zs.length:=Paired.length h2;have hlt:zs.length-1<ts.length:=by lia
 refine aL (aF.of h1) (GT.oE (t:=zs.length) (v:=.ref (ts[zs.length-1])) ?_ (by rw[length_map,hlen]) hpos) (q _ (mD h2 (getElem?_eq_getElem hlt) hl));rw[getElem?_map,getElem?_eq_getElem hlt];rfl
inductive spWst (a:Ad)(vs:List V)(H:Hp)(Q:VK)(E:XK):Prop where
 |mk (x p tl nb st sz gr:Addr) (k m:Nat) (A:Arith) (tab:List Mat) (z:Rc) (pl:Nat) (d:Nd) (cI:vs=[.ref x,.ref z.q]) (cJ:fQ a H x p tl nb st sz gr) (cQ:Bk a H p tl k m A tab) (dH:RcAt a H z) (fC:z.s=raw (pl,d)) (gF:Pq.wF tab.length d) (iQ:∀l ws Z,aA H Z->Z l=some (.aB (vN ws))->(∀y∈ws,y<18446744073709551616)->ws.length<=256->ws.all A.number=clean A tab d->Q (.ref l) Z)
theorem all_rows {f:Nat->Bool}{c r:Nat}{l:List Nat}(hl:l.length=r*c):((rowsOf c r l).all λ(r:List Nat)=>r.all f)=l.all f:=by
 conv=>rhs;rw[<-cZ.fu c r l hl]
 rw[Bool.eq_iff_iff];simp only[all_eq_true,List.mem_flatten];constructor
 ·rintro h x ⟨row,hr,hx⟩;exact h row hr x hx
 ·intro h row hr x hx;exact h x ⟨row,hr,hx⟩
theorem Pg (G:aU K mg a):v9 P w K mg aq a.aZ "words_of_step" 2 ["self","step"] (spWst a):=G.tX.bx G.bZ λfd F=>by
 refine F.ok tH (λvs H Q E h=>?_) (λu A u s H vs Q E hr h=>?_)
 ·obtain⟨x,p,tl,nb,st,sz,gr,k,m,A,tab,z,pl,d,rfl,_⟩:=h;rfl
 obtain⟨x,p,tl,nb,st,sz,gr,k,m,A,tab,z,pl,d,rfl,hx,hB,hR,hs,hnd,q⟩:=h;refine⟨_,(aC (cC (iG (aD (fD G) (bG (aQ aR rfl)))) (ak (aG (aQ (aJ aH (aQ aK rfl) (aQ aR rfl) (λu u=>rfl)) rfl))) bN) (ak (aG (iB (bY (dD (aQ aR rfl) (bL rfl G.YD))) (aQ aR rfl) (bK dM))))),?_⟩;simp_arith! [jA G hR.i,DQ G hx];refine⟨z.s.num,rfl,_,rfl,?_⟩;cases hf:fm z.s.num with
 |false=>
  rw[if_pos (by decide)];rw[hs] at hf;obtain⟨k0,rfl⟩:=XQ hf;have hk0:k0<tab.length:=hnd;obtain⟨ts,qm,t1,t2,t3⟩:=hB.at_ hk0;obtain⟨e,l,g1,g2,_,g4,g5,g6⟩:=t3.ex;rw[DQ G hx,jA G hR.i];have en:z.s.num=k0:=by rw[hs];rfl
  rw[en];refine aL (aF.of t1) (dU t2) ?_;rw[cU G g1];refine q e l H (aA.refl _) g2 g6 ?_ ?_
  ·rw[g4];have:=mul_le_mul t3.r2 t3.c2;lia
  ·show l.all A.number=(tab.getD k0 noMat).words.all λ(r:List Nat)=>r.all A.number;rw[g5,all_rows g4]
 |true=>
  rw[if_neg (by decide),jA G hR.i];ac_rfl;rw[hs] at hf⊢;by_cases h18:((raw (pl,d)).num:Int)=18
  ·rw[if_pos h18,Q6 G hR.i];have hg:=hR.g;rw[hs] at hg;cases d with
   |leaf l=>
    cases l with
    |lit v=>
     refine q z.g [v] H (aA.refl _) hg ?_ (by show 1<=256;decide) ?_
     ·intro y hy;have e:=mem_singleton.mp hy;subst e;exact hnd
     ·show(A.number v&&true)=A.number v;rw[Bool.and_true]
    |table k0=>
     have hn:fm k0=false:=JM (T:=tab.length) hnd hB.le;have hf:fm k0=true:=hf;rw[hn] at hf;cases hf
    |_=>cases h18
   |one o i=>cases o<;>cases h18
   |two o i j=>cases o<;>cases h18
  ·rw[if_neg h18];refine⟨by decide,λl nl=>q l [] _ (aA.laid nl) ao (λy hy=>absurd hy (by simp)) (by decide) ?_⟩;cases d with
   |leaf l=>
    cases l with
    |lit v=>exact absurd rfl h18
    |table k0=>
     have hn:fm k0=false:=JM (T:=tab.length) hnd hB.le;have hf:fm k0=true:=hf;rw[hn] at hf;cases hf
    |_=>rfl
   |one o i=>rfl
   |two o i j=>rfl
inductive spLook (a:Ad)(vs:List V)(H:Hp)(Q:VK)(E:XK):Prop where
 |mk (x p tl nb st sz gr:Addr) (k m:Nat) (A:Arith) (tab:List Mat) (t:GridTalk.Tree) (av:List Addr) (cI:vs=[.ref x]) (cJ:fQ a H x p tl nb st sz gr) (cQ:Bk a H p tl k m A tab) (dH:IK a av H st (aV 0 t)) (fC:(∀s∈aV 0 t,Pq.wF tab.length s.2)) (gF:(∀f l Z,t.bad A tab=some f->aA H Z->H l=none->Z l=some (.aB [.int (-7),.int (f:Nat)])->Q (.ref l) Z)) (iQ:∀l Z,t.bad A tab=none->aA H Z->H l=none->Z l=some (.aB [])->Q (.ref l) Z)
theorem lC (G:aU K mg a):v9 P w K mg aq a.aZ "look_at_words" 3 ["self"] (spLook a):=G.tW.bx G.bZ λfd F=>by
 refine F.ok jP (λvs H Q E h=>?_) (λy A y s H vs Q E hr h=>?_)
 ·obtain⟨x,p,tl,nb,st,sz,gr,k,m,A,tab,t,av,rfl,_⟩:=h;rfl
 obtain⟨x,p,tl,nb,st,sz,gr,k,m,A,tab,t,av,rfl,hx,hB,⟨Y,hs1,Ew,Pa,hYl⟩,hpt,q1,q2⟩:=h;refine⟨_,(aC (fB PassesOwn.never rfl (fj (aQ aK rfl)) (bM (i:=1) jP.nd rfl (Or.inl rfl)) (ak (cC (mY (iG (aD (uQ G) (bB (aQ aK rfl) (wg (Pg G) aK (bG aR)))))) (ak (aG (bK (bB (bL rfl G.yI) (aQ aR rfl))))) bN))) (ak (aG (bK dM)))),?_⟩;simp_arith! [eH,x_st G hx];have hbad:=Ps.wC A tab t 0;have hlY:Y.length=(aV 0 t).length:=by have:=congrArg length Pa;unfold cN at this;rwa[length_map,length_map] at this
 refine⟨st,rfl,⟨_,aF.of hs1⟩,iU (K:=K) (a:=st) (xs:=Y.map λz=>V.ref z.q) (λi σ Z=>aA H Z/\((aV 0 t).drop i).find? (λs=> !clean A tab s.2)=(aV 0 t).find? (λs=> !clean A tab s.2)/\∃v1,σ=[some (.ref x),v1]) ⟨aA.refl _,rfl,none,rfl⟩ (λi σ Z _ q=>q.1.seq (aF.of hs1)) ?_ ?_⟩
 ·rintro i v σ H2 hv ⟨s2,hfd,v1,rfl⟩;obtain⟨z,sd,Pb,rfl,hsd,hzs⟩:=Q8 Pa hv;obtain⟨pl,d⟩:=sd;have hR:=(Ew z Pb).1.same s2;have hx2:=hx.same s2;have hnd:=hpt _ (mem_of_getElem? hsd);have hfc:=Pq.find_cons (λs=> !clean A tab s.2) hsd;rw[hfd] at hfc;simp_arith! [XD G hx2,Tf hx2 (show∀f∈xNames,(Str.ofString "words_of_step")≠f by decide+kernel)];refine⟨x,p,tl,nb,st,sz,gr,k,m,A,tab,z,pl,d,rfl,hx2,hB.same s2,hR,hzs,hnd,λl ws H3 s3 hl hws hwl hall=>?_⟩;refine⟨p,l,k,m,A,ws,rfl,(hB.same (s2.trans s3)).ar,hB.ha,aF.of hl,hws,by lia,λH4 s4=>?_⟩;refine⟨_,rfl,?_⟩;rw[hall];have s5:aA H2 H4:=s3.trans s4;cases hc:clean A tab d with
  |true=>
   rw[if_neg (by decide)];refine⟨s2.trans s5,?_,_,rfl⟩;rw[hfc,if_neg (by show¬(!clean A tab d)=true;rw[hc];decide)]
  |false=>
   rw[if_pos (by decide),Mu G (hR.same s5).i];refine⟨by decide,λl2 nl=>?_⟩;have e:z.s.at_=pl:=by rw[hzs];exact XS _
   refine q1 pl l2 _ ?_ ((s2.trans s5).trans (aA.laid nl)) ((s2.trans s5).free nl) (by rw[ao,e]);rw[hbad,hfc,if_pos (by show(!clean A tab d)=true;rw[hc];rfl)];rfl
 ·rintro σ H2 ⟨s2,hfd,v1,rfl⟩;ac_rfl;rw[length_map,hlY,List.drop_length] at hfd;refine⟨by decide,λl nl=>q2 l _ ?_ (s2.trans (aA.laid nl)) (s2.free nl) ao⟩;rw[hbad, <-hfd];rfl
def BR (a:Ad)(A:Arith)(H:Hp)(gr:Addr)(Ms:List Mat):Prop:=∃qs:List Addr,H gr=some (.aB (qs.map V.ref))/\Paired (MG a A H) qs Ms
theorem ms_ne {A:Arith}{M:Mat}(h:Vl.WF A M){qs:List Addr}:vI (ms A M)≠qs.map V.ref:=by
 intro e;have h1:=gC h;have h2:0<M.rows*M.cols:=mul_pos h.r1 h.c1;cases hm:ms A M with
 |nil=>rw[hm] at h1;simp at h1;lia
 |cons y l=>
  rw[hm] at e;cases qs with
  |nil=>cases e
  |cons q qs=>injection e with e _;cases e
theorem MG.but {A:Arith}{S:List Addr}{H Z:Hp}{q:Addr}{M:Mat}(h:MG a A H q M)(b:But S H Z)(hS:∀p∈S,∃qs:List Addr,H p=some (.aB (qs.map V.ref))):MG a A Z q M:=by
 obtain⟨e,⟨dx,h1⟩,h2⟩:=h.ex;refine⟨h.wf,e,⟨dx,b _ _ h1 λhp=>?_⟩,b _ _ h2 λhp=>?_⟩
 ·obtain⟨qs,z⟩:=hS _ hp;rw[h1] at z;cases z
 ·obtain⟨qs,z⟩:=hS _ hp;rw[h2] at z;injection z with z;injection z with z;exact ms_ne h.wf z
theorem BR.but {A:Arith}{S:List Addr}{H Z:Hp}{gr:Addr}{Ms:List Mat}(h:BR a A H gr Ms)(b:But S H Z)(hS:∀p∈S,∃qs:List Addr,H p=some (.aB (qs.map V.ref)))(n:gr∉S):BR a A Z gr Ms:=by
 obtain⟨qs,h1,h2⟩:=h;exact⟨qs,b _ _ h1 n,d8 (λq M z=>z.but b hS) h2⟩
theorem BR.same {A:Arith}{H Z:Hp}{gr:Addr}{Ms:List Mat}(h:BR a A H gr Ms)(s:aA H Z):BR a A Z gr Ms:=h.but (S:=[]) s.but (λp hp=>absurd hp (by simp)) (by simp)
theorem BR.wf {A:Arith}{H:Hp}{gr:Addr}{Ms:List Mat}(h:BR a A H gr Ms):∀M∈Ms,Vl.WF A M:=by
 obtain⟨qs,_,h2⟩:=h;intro M hM;obtain⟨q,hq⟩:=Paired.right h2 M hM;exact hq.wf
abbrev sizesOf (Ms:List Mat):List Size:=Ms.map λ(x:Mat)=>(x.rows,x.cols)
abbrev qP (A:Arith)(tab:List Mat):=dN (Af A tab) (Ag A) (Ah A)
theorem mF {Ms:List Mat}{i:Nat}(h:i<Ms.length):(sizesOf Ms)[i]? =some ((Ms.getD i noMat).rows,(Ms.getD i noMat).cols):=by
 rw[getElem?_map,getD_some noMat h];rfl
theorem v_case {A:Arith}{tab Ms:List Mat}{d:Nd}{pl:Nat}{z:Size}(hop:Pq.Cz Ms.length d)(hnd:Pq.wF tab.length d)(hcl:clean A tab d=true)(le:tab.length<=16)(hf:fm (raw (pl,d)).num=true)(hz:qO A tab (sizesOf Ms) d=some z):
  oA A (raw (pl,d)).num (raw (pl,d)).given ((raw (pl,d)).ops.map λo=>Ms.getD o noMat) z.1 z.2 (qP A tab Ms d):=by
 cases d with
 |leaf l=>
  cases l with
  |table k=>
   have h1:fm k=false:=JM (T:=tab.length) hnd le;have hf:fm k=true:=hf;rw[h1] at hf;cases hf
  |zeros r c=>
   have hz:(if (sized r&&sized c)=true then some (r,c) else none)=some z:=hz;split at hz
   ·rename_i q;injection hz with hz;subst hz
    rw[and_eq_true,Vl.dY,Vl.dY] at q;exact oA.zeros r c q.1.2 q.2.2
   ·cases hz
  |unit n=>
   have hz:(if sized n=true then some (n,n) else none)=some z:=hz;split at hz
   ·rename_i q;injection hz with hz;subst hz
    rw[Vl.dY] at q;exact oA.unit n q.1 q.2
   ·cases hz
  |lit v=>
   injection hz with hz;subst hz;exact oA.lit v hnd hcl
 |one o i=>
  have e:=mF (Ms:=Ms) hop;have e':Ms[i]? =some (Ms.getD i noMat):=getD_some _ hop;have hz:pB A.minus.isSome o ((Ms.getD i noMat).rows,(Ms.getD i noMat).cols)=some z:=by
   have:=hz;simp only[qO,dN,e] at this;exact this
  have e2:qP A tab Ms (.one o i)=Ag A o (Ms.getD i noMat):=by simp only[qP,dN,e']
  rw[e2];exact oA.one o _ z hz
 |two o i j=>
  have e:=mF (Ms:=Ms) hop.1;have g:=mF (Ms:=Ms) hop.2;have e':Ms[i]? =some (Ms.getD i noMat):=getD_some _ hop.1;have g':Ms[j]? =some (Ms.getD j noMat):=getD_some _ hop.2;have hz:pC A.minus.isSome o ((Ms.getD i noMat).rows,(Ms.getD i noMat).cols) ((Ms.getD j noMat).rows,(Ms.getD j noMat).cols)=some z:=by
   have:=hz;simp only[qO,dN,e,g] at this;exact this
  have e2:qP A tab Ms (.two o i j)=Ah A o (Ms.getD i noMat) (Ms.getD j noMat):=by simp only[qP,dN,e',g']
  rw[e2];exact oA.two o _ _ z hz
theorem toOption_some {ε β:Type}{x:Except ε β}{z:β}(h:x.toOption=some z):x=.ok z:=by
 cases x with
 |error f=>cases h
 |ok y=>injection h with h;subst h;rfl
theorem v_size {k m:Nat}{A:Arith}(O:arith k m=some A){tab Ms:List Mat}{d:Nd}{z:Size}{M:Mat}(hop:Pq.Cz Ms.length d)(hnd:Pq.wF tab.length d)(hwf:∀M∈Ms,Vl.WF A M)(hz:qO A tab (sizesOf Ms) d=some z)(hM:qP A tab Ms d=some M):(M.rows,M.cols)=z:=by
 have two:∀{r c:Nat},r=z.1/\c=z.2/\Vl.WF A M->(r,c)=z:=λh=>by rw[h.1,h.2.1]
 cases d with
 |leaf l=>
  cases l with
  |table j=>
   have hz:some ((tab.map λ(x:Mat)=>(x.rows,x.cols)).getD j (0,0))=some z:=hz;rw[Vl.tD tab hnd] at hz;injection hz with hz;subst hz
   injection hM with hM;subst hM;rfl
  |zeros r c=>
   have hz:(if (sized r&&sized c)=true then some (r,c) else none)=some z:=hz;split at hz
   ·rename_i q;injection hz with hz;subst hz
    rw[and_eq_true,Vl.dY,Vl.dY] at q;exact two (Vl.V2 O q.1.1 q.1.2 q.2.1 q.2.2 (toOption_some hM))
   ·cases hz
  |unit n=>
   have hz:(if sized n=true then some (n,n) else none)=some z:=hz;split at hz
   ·rename_i q;injection hz with hz;subst hz
    rw[Vl.dY] at q;exact two (Vl.Ab O q.1 q.2 (toOption_some hM))
   ·cases hz
  |lit v=>
   injection hz with hz;subst hz;injection hM with hM;subst hM;rfl
 |one o i=>
  have e:=mF (Ms:=Ms) hop;have e':Ms[i]? =some (Ms.getD i noMat):=getD_some _ hop;have hz:pB A.minus.isSome o ((Ms.getD i noMat).rows,(Ms.getD i noMat).cols)=some z:=by
   have:=hz;simp only[qO,dN,e] at this;exact this
  have hM:Ag A o (Ms.getD i noMat)=some M:=by
   have:=hM;simp only[qP,dN,e'] at this;exact this
  exact two (Vl.Kr O (hwf _ (mem_of_getElem? e')) (toOption_some hz) (toOption_some hM))
 |two o i j=>
  have e:=mF (Ms:=Ms) hop.1;have g:=mF (Ms:=Ms) hop.2;have e':Ms[i]? =some (Ms.getD i noMat):=getD_some _ hop.1;have g':Ms[j]? =some (Ms.getD j noMat):=getD_some _ hop.2;have hz:pC A.minus.isSome o ((Ms.getD i noMat).rows,(Ms.getD i noMat).cols) ((Ms.getD j noMat).rows,(Ms.getD j noMat).cols)=some z:=by
   have:=hz;simp only[qO,dN,e,g] at this;exact this
  have hM:Ah A o (Ms.getD i noMat) (Ms.getD j noMat)=some M:=by
   have:=hM;simp only[qP,dN,e',g'] at this;exact this
  exact two (Vl.Ks O (hwf _ (mem_of_getElem? e')) (hwf _ (mem_of_getElem? g')) (toOption_some hz) (toOption_some hM))
inductive spVSt (a:Ad)(vs:List V)(H:Hp)(Q:VK)(E:XK):Prop where
 |mk (x p tl nb st sz gr t:Addr) (k m:Nat) (A:Arith) (tab Ms:List Mat) (z:Rc) (pl:Nat) (d:Nd) (zz:Size) (cI:vs=[.ref x,.ref z.q,.ref t]) (cJ:fQ a H x p tl nb st sz gr) (cQ:Bk a H p tl k m A tab) (dH:BR a A H gr Ms) (fC:RcAt a H z) (gF:z.s=raw (pl,d)) (iQ:Pq.Cz Ms.length d) (kE:Pq.wF tab.length d) (ud:clean A tab d=true) (Bm:iJ H t zz) (zP:Vl.kZ zz) (Ii:qO A tab (sizesOf Ms) d=some zz) (Xd:(qP A tab Ms d=none->∀Z,aA H Z->Q .non Z)) (h13_:∀M q Z,qP A tab Ms d=some M->aA H Z->MG a A Z q M->(M.rows,M.cols)=zz->Q (.ref q) Z)
theorem Ph (G:aU K mg a):v9 P w K mg aq a.aZ "value_of_step" 9 ["self","step","size"] (spVSt a):=G.tY.bx G.bZ λfd F=>by
 have jO:=@xK P w K mg aq a G;refine F.ok gO (λvs H Q E h=>?_) (λu A u s H vs Q E hr h=>?_)
 ·obtain⟨x,p,tl,nb,st,sz,gr,t,k,m,A,tab,Ms,z,pl,d,zz,rfl,_⟩:=h;rfl
 obtain⟨x,p,tl,nb,st,sz,gr,t,k,m,A,tab,Ms,z,pl,d,zz,rfl,hx,hB,hG,hR,hs,hop,hnd,hcl,ht,hzz,hz,q1,q2⟩:=h;refine⟨_,(aC (cC (iG (aD (fD G) (bG (aQ aR rfl)))) (ak (aG (iC jO (bC (aJ bT bf au) (bB (aJ bT bf au) (aD (ou G) (bB (aQ aK rfl) (aQ (aJ aH (aQ aK rfl) (aQ aR rfl) (λu u=>rfl)) rfl)))))))) bN) (aC (Ci (i:=3) (own:=[("operand",4)]) rfl gO.nd rfl rfl (Ji rfl rfl rfl rfl) (fj (aQ aR rfl)) (eG (N:=["self","step","size","grids","operand"]) (sc:=bV (cu (aM 139) 6)) (by decide+kernel)) (λu u u u u=>(bM (i:=4) gO.nd rfl (Or.inl rfl))) (λu u u u u=>gj) (λu u u u u=>(aJ (VD (K:=K) rfl) (z7 (K:=K) rfl aK rfl) cM (λu u=>rfl))))
   (ak (aG (aD (DN G) (bC (aQ aR rfl) (bC (aQ aK rfl) (bC (aQ aR rfl) (bB bF bf))))))))),?_⟩
 simp_arith! [jA G hR.i,DQ G hx];refine⟨z.s.num,rfl,_,rfl,?_⟩;cases hf:fm z.s.num with
 |false=>
  rw[if_pos (by decide)];rw[hs] at hf;obtain⟨k0,rfl⟩:=XQ hf;have hk0:k0<tab.length:=hnd;obtain⟨ts,qm,t1,t2,t3⟩:=hB.at_ hk0;obtain⟨e,l,g1,g2,_,g4,g5,g6⟩:=t3.ex;have en:z.s.num=k0:=by rw[hs];rfl
  refine bw (bR.of ht) (bQ rfl) (bw (bR.of ht) (cT rfl) ?_);rw[XD G hx,DQ G hx,jA G hR.i,en];refine aL (aF.of t1) (dU t2) ?_;rw[cU G g1];have hll:l.length<=256:=by
   rw[g4];have:=mul_le_mul t3.r2 t3.c2;lia
  refine⟨p,e,k,m,A,l,rfl,hB.ar,hB.ha,aF.of g2,g6,by lia,λD H1 nD s1 hD=>?_⟩;refine rR (h:=zz.1) (c:=zz.2) rfl rfl λg H2 ng s2 hg=>?_;have hzz':((tab.getD k0 noMat).rows,(tab.getD k0 noMat).cols)=zz:=v_size hB.ha hop hnd hG.wf hz rfl;refine q2 (tab.getD k0 noMat) g H2 rfl (s1.trans s2) ?_ hzz';have hall:l.all A.number=true:=by
   have hcl:((tab.getD k0 noMat).words.all λ(r:List Nat)=>r.all A.number)=true:=hcl;rw[g5,all_rows g4] at hcl;exact hcl
  have hwf:Vl.WF A (tab.getD k0 noMat):=⟨t3.r1,t3.r2,t3.c1,t3.c2,l,g4,g5,λy hy=>⟨g6 y hy,all_eq_true.mp hall y hy⟩⟩;refine⟨hwf,D,?_,?_⟩
  ·rw[<-hzz'] at hg;exact hg
  ·have e1:fl (tab.getD k0 noMat)=l:=by unfold fl;rw[g5];exact cZ.fu _ _ _ g4
   rw[s2 _ _ hD];unfold ms;rw[e1,vI,map_map];rfl
 |true=>
  rw[if_neg (by decide)];rw[vJ G hR.i];obtain⟨qs,hz1,hz2⟩:=id hG;have hlen:qs.length=Ms.length:=Paired.length hz2;have ho:=hR.o;rw[hs] at ho;have hol:=XM (pl:=pl) hop;refine⟨z.o,rfl,⟨_,aF.of ho⟩,RB (λi=>((raw (pl,d)).ops[i]?.map λo=>V.ref (qs.getD o x)).getD .non) (aF.of ho) ?_ (λv=>rfl) ?_ ?_⟩
  ·rw[length_map];refine cD ?_;cases d<;>simp[raw]
  ·intro i v Z N hv s1 hN;obtain⟨o,rfl,ho'⟩:=xu hv;simp_arith! [x_gr G (hx.same s1)];have hlt:o<qs.length:=by rw[hlen];exact hol o (mem_of_getElem? ho')
   refine aL (aF.of (s1 _ _ hz1)) (dU (v:=.ref (qs.getD o x)) (by rw[getElem?_map,getD_some x hlt];rfl)) ?_;have:=hN Z (aA.refl _);rw[ho'] at this;exact this
  ·intro D Z nD s1 hD;rw[length_map,Tg] at hD;have BK:=hR.same s1;rw[jA G BK.i,XD G (hx.same s1),Q6 G BK.i];have hg:=BK.g;rw[hs] at hg;rw[hs] at hf⊢;exact⟨_,p,z.g,D,t,k,m,A,_,_,_,zz.1,zz.2,_,rfl,hB.ar.same s1,hB.ha,hB.hm,hg,hD,zU (d8 (λq M z=>z.same s1) hz2) x noMat _ hol,s1 _ _ ht,hzz.1,hzz.2.1,hzz.2.2.1,hzz.2.2.2,v_case hop hnd hcl hB.le hf hz,λhn H2 s2=>q1 hn H2 (s1.trans s2),λM q H2 hM nq s2 yV=>q2 M q H2 hM (s1.trans s2) yV (v_size hB.ha hop hnd hG.wf hz hM)⟩
theorem value_work (A:Arith)(tab:List Mat)(t:GridTalk.Tree):match work (qP A tab) (aV 0 t) [] with
  | .error f=>t.value A tab=.error f
  | .ok zs=>∃z,zs.getLast? =some z/\t.value A tab=.ok z:=by
 have h:=Ps.Wh (Af A tab) (Ag A) (Ah A) t;rw[Ps.vC];cases e:Ps.fold (Af A tab) (Ag A) (Ah A) t with
 |error f=>rw[e] at h;rw[h]
 |ok z=>
  rw[e] at h;obtain⟨zs,h1,h2,h3⟩:=h;rw[h3];exact⟨z,h2,rfl⟩
inductive spWork (a:Ad)(vs:List V)(H:Hp)(Q:VK)(E:XK):Prop where
 |mk (x p tl nb st sz gr:Addr) (k m:Nat) (A:Arith) (tab:List Mat) (t:GridTalk.Tree) (zs:List Size) (H0:Hp) (av:List Addr) (cI:vs=[.ref x]) (cJ:fQ a H x p tl nb st sz gr) (cQ:Bk a H0 p tl k m A tab) (dH:aA H0 H) (fC:H0 gr=none) (gF:IK a av H st (aV 0 t)) (iQ:gr∈av) (kE:(∀s∈aV 0 t,Pq.wF tab.length s.2)) (ud:yZ H sz zs) (Bm:work (qO A tab) (aV 0 t) []=.ok zs) (zP:(∀s∈zs,Vl.kZ s)) (Ii:t.bad A tab=none) (Xd:H gr=some (.aB [])) (h13_:st≠gr) (h14_:sz≠gr) (h15_:(∀f l Z,t.value A tab=.error f->But [gr] H Z->H l=none->Z l=some (.aB [.int (-8),.int (f:Nat)])->Q (.ref l) Z)) (h16_:∀M Ms l Z,t.value A tab=.ok M->Ms.getLast? =some M->BR a A Z gr Ms->But [gr] H Z->H l=none->Z l=some (.aB [])->Q (.ref l) Z)
theorem vK (G:aU K mg a):v9 P w K mg aq a.aZ "work_out" 10 ["self"] (spWork a):=G.zN.bx G.bZ λfd F=>by
 refine F.ok gH (λvs H Q E h=>?_) (λy A y s H vs Q E hr h=>?_)
 ·obtain⟨x,p,tl,nb,st,sz,gr,k,m,A,tab,t,zs,H0,av,rfl,_⟩:=h;rfl
 obtain⟨x,p,tl,nb,st,sz,gr,k,m,A,tab,t,zs,H0,av,rfl,hx,hB,s0,ng,⟨Y,hs1,Ew,Pa,hYl⟩,hga,hpt,⟨ts,hz1,hz2⟩,hwz,xW,hbad,hgr,hd1,hd2,q1,q2⟩:=h;refine⟨_,(aC (fB PassesOwn.never rfl (sU rfl G.yJ (bB (aQ aK rfl) (aQ aK rfl))) (FQ rfl (dZ (bM (i:=1) gH.nd rfl (Or.inl rfl)) (dZ (bM (i:=2) gH.nd rfl (Or.inl rfl)) lV))) (aC (aX 3 gH.nd (wg (Ph G) aK (bB aR bf))) (aC (cC (bY (sI bF)) (ak (aG (bK (bB (bL rfl G.Hr) (aQ aR rfl))))) bN) (ak (eZ (iZ plainAttrs_list PySem.F.slot_list_append PySem.F.type_list_append gK (aQ aK rfl) (bG bF))))))) (ak (aG (bK dM)))),?_⟩;simp_arith! [eH,x_st G hx,x_sz G hx];have hlt:=Pq.wD t 0;have hw:=value_work A tab t;have hlY:Y.length=(aV 0 t).length:=by have:=congrArg length Pa;unfold cN at this;rwa[length_map,length_map] at this
 obtain⟨zl,_,zat⟩:=Pq.ZD hwz;have hlz:ts.length=zs.length:=Paired.length hz2;have zl:zs.length=(aV 0 t).length:=by rw[zl];simp
 have hcl:∀s∈aV 0 t,clean A tab s.2=true:=by
  have hb:=Ps.wC A tab t 0;rw[hbad] at hb;have hb:=Option.map_eq_none_iff.mp hb.symm;intro s hs;have:=List.find?_eq_none.mp hb s hs;simpa using this
 have hS:∀p∈[gr],∃l:List Addr,H p=some (.aB (l.map V.ref)):=λp hp=>by simp at hp;subst hp;exact⟨[],hgr⟩
 have hS':∀p∈[gr],∃l,H p=some (.aB l):=λp hp=>by simp at hp;subst hp;exact⟨_,hgr⟩
 refine⟨st,sz,_,_,rfl,aF.of hs1,aF.of hz1,Qe (K:=K) (a:=st) (b:=sz) (xs:=Y.map λz=>V.ref z.q) (ys:=ts.map V.ref) (λi σ Z=>But [gr] H Z/\(∃Ms,BR a A Z gr Ms/\Ms.length=i/\sizesOf Ms=zs.take i/\work (qP A tab) ((aV 0 t).drop i) Ms=work (qP A tab) (aV 0 t) [])/\∃v1 v2 v3,σ=[some (.ref x),v1,v2,v3]) ⟨But.refl _ _,⟨[],⟨[],hgr,.nil⟩,rfl,rfl,rfl⟩,none,none,none,rfl⟩ (λi σ Z q=>⟨q.1.seq (aF.of hs1) (by simp[hd1]),q.1.seq (aF.of hz1) (by simp[hd2])⟩) (by rw[length_map,length_map];lia) ?_ ?_⟩
 ·rintro i v u σ H2 T hv hu ⟨b2,⟨Ms,lR,hMl,hMs,hwk⟩,v1,v2,v3,rfl⟩ nT;obtain⟨z,sd,Pb,rfl,hsd,hzs⟩:=Q8 Pa hv;obtain⟨pl,d⟩:=sd;rw[getElem?_map] at hu;obtain⟨t3,ht3,rfl⟩:=map_eq_some_iff.mp hu;have hil:i<(aV 0 t).length:=(List.getElem?_eq_some_iff.mp hsd).1;obtain⟨zz,hzz1,hzz2⟩:=zat i _ hsd;rw[List.length_nil,Nat.zero_add] at hzz1 hzz2;have hsT:iJ H t3 zz:=mD hz2 ht3 hzz2;have hx2:=hx.but b2 hS';have s2:aA H0 H2:=aA.Mv s0 b2 λz hz=>by simp at hz;subst hz;exact ng
  have hR:RcAt a H2 z:=(Ew z Pb).1.but b2 hS' (λe=>(Ew z Pb).2.1 (by simp at e;rw[e];exact hga)) (λe=>(Ew z Pb).2.2 (by simp at e;rw[e];exact hga));have hsT2:iJ H2 t3 zz:=b2 _ _ hsT λe=>by
   simp at e;have hsT:H t3=_:=hsT;rw[e,hgr] at hsT;cases hsT
  have hnd:=hpt _ (mem_of_getElem? hsd);have hop:Pq.Cz Ms.length d:=by
   have:=hlt i _ hsd;rw[Nat.zero_add, <-hMl] at this;exact this
  have BP:=Pq.RQ (stp:=qP A tab) (acc:=Ms) hsd;have sT:aA H2 (aN H2 T (.tup [.ref z.q,.ref t3])):=aA.laid nT;refine⟨T,_,rfl,bR.of ao,rfl,_,_,rfl,_,_,rfl,rfl,?_⟩;generalize aN H2 T (.tup [.ref z.q,.ref t3])=H3 at sT⊢;simp_arith! [mL,Tf (hx2.same sT) (show∀f∈xNames,(Str.ofString "value_of_step")≠f by decide+kernel)];have fr:∀c,H2 c=none->H c=none:=λc hc=>by
   cases e:H c with
   |none=>rfl
   |some u=>
    by_cases e2:c=gr
    ·obtain⟨ts,g,_⟩:=lR;rw[e2,g] at hc;cases hc
    ·rw[b2 _ _ e (by simp[e2])] at hc;cases hc
  refine⟨x,p,tl,nb,st,sz,gr,t3,k,m,A,tab,Ms,z,pl,d,zz,rfl,hx2.same sT,hB.same (s2.trans sT),lR.same sT,hR.same sT,hzs,hop,hnd,hcl _ (mem_of_getElem? hsd),sT _ _ hsT2,xW _ (mem_of_getElem? hzz2),by rw[hMs];exact hzz1,λhno H4 s4=>?_,λM q H4 hM s4 yV hMz=>?_⟩
  ·have s5:=sT.trans s4;rw[hwk] at BP;rw[show qP A tab Ms (pl,d).2=none from hno] at BP;have BP:work (qP A tab) (aV 0 t) []=.error pl:=BP;rw[BP] at hw
   try dsimp only
   rw[if_pos rfl,Mu G (hR.same s5).i];refine⟨by decide,λl nl=>?_⟩;have e:z.s.at_=pl:=by rw[hzs];exact XS _
   refine q1 pl l _ hw (b2.trans (s5.trans (aA.laid nl)).but) (fr _ (s5.free nl)) (by rw[ao,e])
  ·have s5:=sT.trans s4
   try dsimp only
   rw[if_neg (by intro z;cases z),x_gr G (hx2.same s5)];obtain⟨qs,g1,g2⟩:=lR;have hlq:qs.length=Ms.length:=Paired.length g2;have hSq:∀p∈[gr],∃l:List Addr,H4 p=some (.aB (l.map V.ref)):=λp hp=>by simp at hp;subst hp;exact⟨_,s5 _ _ g1⟩
   refine⟨.inl ⟨rfl,_,aF.of (s5 _ _ g1)⟩,gr,_,_,rfl,rfl,s5 _ _ g1,?_,?_,⟨Ms++[M],⟨qs++[q],?_,?_⟩,?_,?_,?_⟩,_,_,_,rfl⟩
   ·rw[length_map];exact cD (by lia)
   ·exact b2.trans (s5.but.trans But.wrote)
   ·rw[ao,map_append];rfl
   ·exact Paired.snoc (d8 (λq M z=>(z.same s5).but But.wrote hSq) g2) (yV.but But.wrote hSq)
   ·rw[length_append,hMl];rfl
   ·rw[take_snoc hzz2,sizesOf,map_append];show sizesOf Ms++[(M.rows,M.cols)]=_;rw[hMz,hMs]
   ·rw[<-hwk,BP];rw[show qP A tab Ms (pl,d).2=some M from hM]
 ·rintro σ H2 ⟨b2,⟨Ms,lR,hMl,hMs,hwk⟩,v1,v2,v3,rfl⟩;ac_rfl;rw[length_map,hlY] at hMl hwk;rw[List.drop_length] at hwk;have hwk:(Except.ok Ms:Except Nat (List Mat))=work (qP A tab) (aV 0 t) []:=hwk;rw[<-hwk] at hw;obtain⟨M,uo,Xv⟩:=hw;refine⟨by decide,λl nl=>?_⟩;have s4:aA H2 (aN H2 l (.aB [])):=aA.laid nl;refine q2 M Ms l _ Xv uo (lR.same s4) (b2.trans s4.but) ?_ ao;cases e:H l with
  |none=>rfl
  |some u=>
   by_cases e2:l=gr
   ·obtain⟨ts,g,_⟩:=lR;rw[e2,g] at nl;cases nl
   ·rw[b2 _ _ e (by simp[e2])] at nl;cases nl
inductive X3 (a:Ad)(vs:List V)(H:Hp)(Q:VK)(E:XK):Prop where
 |mk (x p tl nb st sz gr:Addr) (k m:Nat) (A:Arith) (Ms:List Mat) (M:Mat) (cI:vs=[.ref x]) (cJ:fQ a H x p tl nb st sz gr) (cQ:dO a H p k m) (dH:arith k m=some A) (fC:BR a A H gr Ms) (gF:Ms.getLast? =some M) (iQ:∀l Z,H l=none->aA H Z->Z l=some (.aB (vN (fl M)))->Q (.ref l) Z)
theorem JN (G:aU K mg a):v9 P w K mg aq a.aZ "words" 3 ["self"] (X3 a):=G.Fq.bx G.bZ λfd F=>by
 refine F.ok EY (λvs H Q E h=>?_) (λy A y s H vs Q E hr h=>?_)
 ·obtain⟨x,p,tl,nb,st,sz,gr,k,m,A,Ms,M,rfl,_⟩:=h;rfl
 obtain⟨x,p,tl,nb,st,sz,gr,k,m,A,Ms,M,rfl,hx,hA,O,⟨qs,h1,h2⟩,hl,q⟩:=h;refine⟨_,(ak (aG (aD (OJ G) (bB (aQ aK rfl) (aQ (aJ aH (aQ aK rfl) (nM j5 au) (λy y=>rfl)) rfl))))),?_⟩;simp_arith! [XD G hx,x_gr G hx];rw[List.getLast?_eq_getElem?] at hl;have hpos:0<Ms.length:=by
  cases Ms with
  |nil=>cases hl
  |cons z zs=>simp
 have hlen:qs.length=Ms.length:=Paired.length h2;have hlt:Ms.length-1<qs.length:=by lia
 have yV:MG a A H (qs[Ms.length-1]) M:=mD h2 (getElem?_eq_getElem hlt) hl;obtain⟨e,g1,g2⟩:=yV.ex;refine aL (aF.of h1) (GT.oE (t:=Ms.length) (v:=.ref (qs[Ms.length-1])) (by rw[getElem?_map,getElem?_eq_getElem hlt];rfl) (by rw[length_map,hlen]) hpos) ?_;rw[cU G g1];have DR:=yL (h:=M.rows) (c:=M.cols) O (qF yV.wf).2.2;have hall:allOf A.word (ms A M)=some (fl M):=by
  unfold qG at DR;cases e2:allOf A.word ((fl M).map A.mean) with
  |none=>rw[e2] at DR;cases DR
  |some ws=>
   rw[e2] at DR;injection DR with DR
   injection DR with _ _ DR;have hl1:=cZ.fZ e2;have e3:=congrArg List.flatten DR;have hfl:=(qF yV.wf).1;rw[cZ.fu _ _ _ (by rw[hl1,length_map];exact hfl),cZ.fu _ _ _ hfl] at e3;rw[e3] at e2;exact e2
 refine⟨p,e,k,m,A,ms A M,rfl,hA,O,aF.of g2,nH O yV.wf,?_,λhn=>?_,λws D Z hw nD s1 hD=>?_⟩
 ·rw[gC yV.wf];have:=iD yV.wf;lia
 ·rw[hall] at hn;cases hn
 ·rw[hall] at hw;injection hw with hw;subst hw
  exact q D Z nD s1 hD
theorem cP.bk (G:aU K mg a){H:Hp}{av:List Addr}{b t:Addr}{S:State}{A:Arith}(h:cP a H av b t S)(O:arith S.a S.m=some A):∃p,Bk a H p t S.a S.m A S.table/\∀(Z:Hp),aA H Z->∀Q:VK,(gn K "arithmetic" (.ref b) Z Q↔Q (.ref p) Z)/\(gn K "table" (.ref b) Z Q↔Q (.ref t) Z):=by
 obtain⟨dx,p,ts,h1,h2,h3,h4⟩:=h.ex;refine⟨p,⟨h2,O,h.m,⟨ts,h3,d8 (λq M z=>?_) h4⟩,h.len⟩,λZ s Q=>⟨dJ (s _ _ h1) G.jY G.gQ (Xi p t),dJ (s _ _ h1) G.jY G.oh (JK p t)⟩⟩;obtain⟨e,l,z1,z2,_,z3⟩:=z.ex;exact⟨⟨e,l,z1,z2,by simp,z3⟩,z.r1,z.r2,z.c1,z.c2⟩
inductive spExOf (K:Frag)(a:Ad)(vs:List V)(H:Hp)(Q:VK)(E:XK):Prop where
 |mk (b t p nb:Addr) (cI:vs=[.ref b,.ref nb]) (cJ:(∀(Z:Hp),aA H Z->∀Q:VK,(gn K "arithmetic" (.ref b) Z Q↔Q (.ref p) Z)/\(gn K "table" (.ref b) Z Q↔Q (.ref t) Z))) (cQ:∀(x st sz gr:Addr) (Z:Hp),H x=none->aA H Z->fQ a Z x p t nb st sz gr->H st=none->H sz=none->H gr=none->st≠sz->st≠gr->sz≠gr->Z st=some (.aB [])->Z sz=some (.aB [])->Z gr=some (.aB [])->Q (.ref x) Z)
theorem jx (G:aU K mg a):bI P w K mg aq "expression_of" a.yG 3 ["board","numbers"] (spExOf K a):=G.Mh.bx λfd F=>by
 have X4:=@XH P w K mg aq a G;refine F.ok Lq (λvs H Q E h=>?_) (λz A z s H vs Q E hr h=>?_)
 ·obtain⟨b,t,p,nb,rfl,_⟩:=h;rfl
 obtain⟨b,t,p,nb,rfl,hF,q⟩:=h;refine⟨_,(ak (aG (iC X4 (bC (aQ aK rfl) (bB (aQ aK rfl) aR))))),?_⟩;ac_rfl;rw[(hF H (aA.refl _) _).1,(hF H (aA.refl _) _).2];exact make_ex q
theorem st8 (S:State){A:Arith}(hA:arith S.a S.m=some A)(l:List Nat):GridTalkNeutral.step S [[8],l.map λn:Nat=>(n:Int)]=(S,GridTalkNeutral.shown (S.asks A (.judge l))):=by
 show((GridTalk.step S (.judge (GridTalkNeutral.nats (l.map λn:Nat=>(n:Int))))).1,GridTalkNeutral.shown (GridTalk.step S (.judge (GridTalkNeutral.nats (l.map λn:Nat=>(n:Int))))).2)=_;rw[dj.jV,stN S hA _ (λz z h=>by cases h) (λz z z h=>by cases h) (λh=>by cases h)]
theorem st9 (S:State){A:Arith}(hA:arith S.a S.m=some A)(l:List Nat):GridTalkNeutral.step S [[9],l.map λn:Nat=>(n:Int)]=(S,GridTalkNeutral.shown (S.asks A (.value l))):=by
 show((GridTalk.step S (.value (GridTalkNeutral.nats (l.map λn:Nat=>(n:Int))))).1,GridTalkNeutral.shown (GridTalk.step S (.value (GridTalkNeutral.nats (l.map λn:Nat=>(n:Int))))).2)=_;rw[dj.jV,stN S hA _ (λz z h=>by cases h) (λz z z h=>by cases h) (λh=>by cases h)]
theorem st10 (S:State){A:Arith}(hA:arith S.a S.m=some A)(x y:Nat)(l:List Nat):GridTalkNeutral.step S [[10,(x:Int),(y:Int)],l.map λn:Nat=>(n:Int)]=(S,GridTalkNeutral.shown (S.asks A (.entry l x y))):=by
 show((GridTalk.step S (.entry (GridTalkNeutral.nats (l.map λn:Nat=>(n:Int))) (x:Int).toNat (y:Int).toNat)).1,GridTalkNeutral.shown (GridTalk.step S (.entry (GridTalkNeutral.nats (l.map λn:Nat=>(n:Int))) (x:Int).toNat (y:Int).toNat)).2)=_;rw[dj.jV,toNat_natCast,toNat_natCast,stN S hA _ (λz z h=>by cases h) (λz z z h=>by cases h) (λh=>by cases h)]
theorem st11 (S:State){A:Arith}(hA:arith S.a S.m=some A)(l k:List Nat):GridTalkNeutral.step S [[11],l.map λn:Nat=>(n:Int),k.map λn:Nat=>(n:Int)]=(S,GridTalkNeutral.shown (S.asks A (.alike l k))):=by
 show((GridTalk.step S (.alike (GridTalkNeutral.nats (l.map λn:Nat=>(n:Int))) (GridTalkNeutral.nats (k.map λn:Nat=>(n:Int))))).1,GridTalkNeutral.shown (GridTalk.step S (.alike (GridTalkNeutral.nats (l.map λn:Nat=>(n:Int))) (GridTalkNeutral.nats (k.map λn:Nat=>(n:Int))))).2)=_;rw[dj.jV,dj.jV,stN S hA _ (λz z h=>by cases h) (λz z z h=>by cases h) (λh=>by cases h)]
structure Xa where
 x:Addr
 p:Addr
 t:Addr
 nb:Addr
 st:Addr
 sz:Addr
 gr:Addr
structure Fr (a:Ad)(H0 H:Hp)(X:Xa):Prop where
 hx:fQ a H X.x X.p X.t X.nb X.st X.sz X.gr
 s:aA H0 H
 n1:H0 X.st=none
 n2:H0 X.sz=none
 n3:H0 X.gr=none
 d1:X.st≠X.sz
 d2:X.st≠X.gr
 d3:X.sz≠X.gr
structure Nw (a:Ad)(H0 H:Hp)(X:Xa):Prop extends Fr a H0 H X where
 l1:H X.st=some (.aB [])
 l2:H X.sz=some (.aB [])
 l3:H X.gr=some (.aB [])
structure Jd (a:Ad)(H0 H:Hp)(X:Xa)(av:List Addr)(A:Arith)(tab:List Mat)(tr:GridTalk.Tree)(z:Size)(zs:List Size):Prop extends Fr a H0 H X where
 last:zs.getLast? =some z
 wk:work (qO A tab) (aV 0 tr) []=.ok zs
 ok:∀s∈zs,Vl.kZ s
 nd:∀s∈aV 0 tr,Pq.wF tab.length s.2
 st:IK a av H X.st (aV 0 tr)
 sz:yZ H X.sz zs
 l3:H X.gr=some (.aB [])
structure Wd (a:Ad)(H0 H:Hp)(X:Xa)(A:Arith)(z:Size)(zs:List Size)(M:Mat)(Ms:List Mat):Prop extends Fr a H0 H X where
 last:zs.getLast? =some z
 sz:yZ H X.sz zs
 mlast:Ms.getLast? =some M
 gr:BR a A H X.gr Ms
theorem Fr.but {H0 H Z:Hp}{X:Xa}{S:List Addr}(h:Fr a H0 H X)(b:But S H Z)(hS:∀p∈S,∃l,H p=some (.aB l))(h0:∀p∈S,H0 p=none):Fr a H0 Z X:=
 ⟨h.hx.but b hS,aA.Mv h.s b h0,h.n1,h.n2,h.n3,h.d1,h.d2,h.d3⟩
theorem Fr.same {H0 H Z:Hp}{X:Xa}(h:Fr a H0 H X)(s:aA H Z):Fr a H0 Z X:=⟨h.hx.same s,h.s.trans s,h.n1,h.n2,h.n3,h.d1,h.d2,h.d3⟩
theorem Nw.same {H0 H Z:Hp}{X:Xa}(h:Nw a H0 H X)(s:aA H Z):Nw a H0 Z X:=⟨h.toFr.same s,s _ _ h.l1,s _ _ h.l2,s _ _ h.l3⟩
theorem Nw.but {H0 H Z:Hp}{X:Xa}{S:List Addr}(h:Nw a H0 H X)(b:But S H Z)(hS:∀p∈S,∃l,H p=some (.aB l))(h0:∀p∈S,H0 p=none)(m1:X.st∉S)(m2:X.sz∉S)(m3:X.gr∉S):Nw a H0 Z X:=
 ⟨h.toFr.but b hS h0,b _ _ h.l1 m1,b _ _ h.l2 m2,b _ _ h.l3 m3⟩
theorem Jd.but {H0 H Z:Hp}{X:Xa}{av:List Addr}{A:Arith}{tab:List Mat}{tr:GridTalk.Tree}{z:Size}{zs:List Size}{S:List Addr}(h:Jd a H0 H X av A tab tr z zs)(b:But S H Z)(hS:∀p∈S,∃l,H p=some (.aB l))(h0:∀p∈S,H0 p=none)(hav:∀p∈S,p∈av)(m1:X.st∉S)(m2:X.sz∉S)(m3:X.gr∉S):Jd a H0 Z X av A tab tr z zs:=
 ⟨h.toFr.but b hS h0,h.last,h.wk,h.ok,h.nd,h.st.but b hS hav m1,h.sz.but b hS m2,b _ _ h.l3 m3⟩
theorem Jd.same {H0 H Z:Hp}{X:Xa}{av:List Addr}{A:Arith}{tab:List Mat}{tr:GridTalk.Tree}{z:Size}{zs:List Size}(h:Jd a H0 H X av A tab tr z zs)(s:aA H Z):Jd a H0 Z X av A tab tr z zs:=
 ⟨h.toFr.same s,h.last,h.wk,h.ok,h.nd,h.st.same s,h.sz.same s,s _ _ h.l3⟩
theorem Wd.same {H0 H Z:Hp}{X:Xa}{A:Arith}{z:Size}{zs:List Size}{M:Mat}{Ms:List Mat}(h:Wd a H0 H X A z zs M Ms)(s:aA H Z):Wd a H0 Z X A z zs M Ms:=
 ⟨h.toFr.same s,h.last,h.sz.same s,h.mlast,h.gr.same s⟩
theorem Wd.but {H0 H Z:Hp}{X:Xa}{A:Arith}{z:Size}{zs:List Size}{M:Mat}{Ms:List Mat}{S:List Addr}(h:Wd a H0 H X A z zs M Ms)(b:But S H Z)(hS:∀p∈S,∃qs:List Addr,H p=some (.aB (qs.map V.ref)))(h0:∀p∈S,H0 p=none)(m2:X.sz∉S)(m3:X.gr∉S):Wd a H0 Z X A z zs M Ms:=
 have hS':∀p∈S,∃l,H p=some (.aB l):=λp hp=>let ⟨qs,e⟩:=hS p hp;⟨_,e⟩
 ⟨h.toFr.but b hS' h0,h.last,h.sz.but b hS' m2,h.mlast,h.gr.but b hS m3⟩
section
variable {H0 H:Hp}{X:Xa}{S:State}{A:Arith}{av:List Addr}{l:List Nat}{Q:VK}
theorem qJ (hb:Bk a H0 X.p X.t S.a S.m A S.table)(hn:H0 X.nb=some (.aB (vN l)))(hl:l.length<=600)(lq:∀z∈l,z<18446744073709551616)(h:Nw a H0 H X)(hav:∀z∈av,H z≠none)(hs:X.sz∈av)
  (q1:∀(c:Int) (f:Nat) o Z,GridTalk.judged A S l=.error (c,f)->aA H0 Z->But [X.st,X.sz] H Z->H0 o=none->H o=none->Z o=some (.aB [.int c,.int f])->Q (.ref o) Z)
  (q2:∀tr z zs o Z,GridTalk.judged A S l=.ok (tr,z)->Jd a H0 Z X av A S.table tr z zs->But [X.st,X.sz] H Z->H0 o=none->H o=none->Z o=some (.aB [])->Q (.ref o) Z):Z7 a [.ref X.x] H Q E0:=by
 have n0:∀z∈[X.st,X.sz],H0 z=none:=λz hz=>by simp at hz;rcases hz with rfl|rfl;exact h.n1;exact h.n2
 have hS:∀p∈[X.st,X.sz],∃l,H p=some (.aB l):=λz hz=>by simp at hz;rcases hz with rfl|rfl;exact⟨_,h.l1⟩;exact⟨_,h.l2⟩
 refine⟨X.x,X.p,X.t,X.nb,X.st,X.sz,X.gr,S.a,S.m,A,S.table,l,H0,av,rfl,h.hx,hb,h.s,h.n1,h.n2,hn,hl,lq,h.d1,h.l1,h.l2,hav,hs,?_,?_,?_⟩
 ·intro f o H2 hpar b2 no ho;refine q1 (-3) f o H2 ?_ (aA.Mv h.s b2 n0) b2 (h.s.free no) no ho;unfold GridTalk.judged;rw[hpar]
 ·intro tr f o H2 hpar hsh b2 no ho;refine q1 (-4) f o H2 ?_ (aA.Mv h.s b2 n0) b2 (h.s.free no) no ho;unfold GridTalk.judged;rw[hpar];have hsh:tr.shape A.minus.isSome S.sizes=.error f:=hsh;simp only[hsh]
 ·intro tr z zs o H2 hpar hsh hlast hwk xW hSt hSz b2 no ho;refine q2 tr z zs o H2 ?_ ⟨h.toFr.but b2 hS n0,hlast,hwk,xW,Pq.wG tr (Vl.Cu hpar) (Vl.vo lq hpar) 0,hSt,hSz,b2 _ _ h.l3 (by simp[Ne.symm h.d2,Ne.symm h.d3])⟩ b2 (h.s.free no) no ho;unfold GridTalk.judged;rw[hpar];have hsh:tr.shape A.minus.isSome S.sizes=.ok z:=hsh;simp only[hsh]
variable {tr:GridTalk.Tree}{z:Size}{zs:List Size}
theorem zc (hb:Bk a H0 X.p X.t S.a S.m A S.table)(h:Jd a H0 H X av A S.table tr z zs)
  (q1:∀(f:Nat) o Z,tr.bad A S.table=some f->aA H Z->H0 o=none->H o=none->Z o=some (.aB [.int (-7),.int f])->Q (.ref o) Z)
  (q2:∀o Z,tr.bad A S.table=none->aA H Z->H o=none->Z o=some (.aB [])->Q (.ref o) Z):spLook a [.ref X.x] H Q E0:=
 ⟨X.x,X.p,X.t,X.nb,X.st,X.sz,X.gr,S.a,S.m,A,S.table,tr,av,rfl,h.hx,hb.same h.s,h.st,h.nd,λf o Z hb s no ho=>q1 f o Z hb s (h.s.free no) no ho,q2⟩
theorem zf (hb:Bk a H0 X.p X.t S.a S.m A S.table)(h:Jd a H0 H X av A S.table tr z zs)(hg:X.gr∈av)(hbad:tr.bad A S.table=none)
  (q1:∀(f:Nat) o Z,tr.value A S.table=.error f->aA H0 Z->But [X.gr] H Z->H0 o=none->H o=none->Z o=some (.aB [.int (-8),.int f])->Q (.ref o) Z)
  (q2:∀M Ms o Z,tr.value A S.table=.ok M->Wd a H0 Z X A z zs M Ms->But [X.gr] H Z->H o=none->Z o=some (.aB [])->Q (.ref o) Z):spWork a [.ref X.x] H Q E0:=by
 have n0:∀z∈[X.gr],H0 z=none:=λz hz=>by simp at hz;subst hz;exact h.n3
 have hS:∀p∈[X.gr],∃l,H p=some (.aB l):=λz hz=>by simp at hz;subst hz;exact⟨_,h.l3⟩
 refine⟨X.x,X.p,X.t,X.nb,X.st,X.sz,X.gr,S.a,S.m,A,S.table,tr,zs,H0,av,rfl,h.hx,hb,h.s,h.n3,h.st,hg,h.nd,h.sz,h.wk,h.ok,hbad,h.l3,h.d2,h.d3,λf o Z hv b no ho=>?_,λM Ms o Z hv hl hG b no ho=>?_⟩
 ·exact q1 f o Z hv (aA.Mv h.s b n0) b (h.s.free no) no ho
 ·exact q2 M Ms o Z hv ⟨h.toFr.but b hS n0,h.last,h.sz.but b hS (by simp[h.d3]),hl,hG⟩ b no ho
end
section
variable {H:Hp}{x p t nb st sz gr:Addr}{k:Prop}
theorem BW (h:fQ a H x p t nb st sz gr):rM a.aZ "judge" (.ref x) H k↔k:=Tf h (by decide+kernel)
theorem m_size (h:fQ a H x p t nb st sz gr):rM a.aZ "size" (.ref x) H k↔k:=Tf h (by decide+kernel)
theorem m_words (h:fQ a H x p t nb st sz gr):rM a.aZ "words" (.ref x) H k↔k:=Tf h (by decide+kernel)
theorem Pj (h:fQ a H x p t nb st sz gr):rM a.aZ "look_at_words" (.ref x) H k↔k:=Tf h (by decide+kernel)
theorem Pk (h:fQ a H x p t nb st sz gr):rM a.aZ "work_out" (.ref x) H k↔k:=Tf h (by decide+kernel)
end
theorem jQ {H:Hp}{x p tl nb st sz gr:Addr}{zs:List Size}{z:Size}{Q:VK}(h:fQ a H x p tl nb st sz gr)(hz:yZ H sz zs)(hl:zs.getLast? =some z)(q:∀t,iJ H t z->Q (.ref t) H):Z8 a [.ref x] H Q E0:=
 ⟨x,p,tl,nb,st,sz,gr,zs,z,rfl,h,hz,hl,q⟩
theorem X5 (G:aU K mg a):bI P w K mg aq "call_judge" a.wW 6 ["board","numbers","rows"] (iy a 8):=G.Uj.bx λfd F=>by
 refine F.ok Ec eX (λy A y s H vs Q E hr h=>?_);obtain⟨b,t,nums,rws,av,S,ns,rs,as,rfl,hB,hn,hr1,hp,hav,f9,q⟩:=h;obtain⟨l,rfl,rfl,hl,lq⟩:=dj.Od (.inl rfl) f9;obtain⟨A,O⟩:=isSome_iff_exists.mp hB.ar;rw[st8 S O] at q;obtain⟨p,lD,hF⟩:=hB.bk G O;cases hp with
 |cons hp0 hp1=>
 cases hp1;rename_i nb;obtain⟨hp0,_⟩:=hp0;rw[Bp] at hp0;refine⟨_,(aC (aX 3 Ec.nd (aD (jx G) (bB aK (aJ aH bf au)))) (ak (aG (jF (cA (BL G) bF) (eF (bD sO (bK (bG (bL rfl G.Qx))) (Gd vY (by rfl) G.WT (by decide+kernel) (bG (cA (uw G) bF))))))))),?_⟩;ac_rfl;refine aL (aF.of hr1) (bQ rfl) ⟨b,t,p,nb,rfl,hF,λx st sz gr H1 nx s1 hx n1 n2 n3 d1 d2 d3 l1 l2 l3=>?_⟩
 try dsimp only
 rw[BW hx];refine qJ (X:=⟨x,p,t,nb,st,sz,gr⟩) (av:=[sz]) lD hp0 hl lq ⟨⟨hx,s1,n1,n2,n3,d1,d2,d3⟩,l1,l2,l3⟩ (λz hz=>by simp at hz;subst hz;rw[l2];intro e;cases e) (by simp) ?_ ?_
 ·intro c f o H2 hj s2 b2 lU no ho;refine⟨_,bJ (aF.of ho),?_⟩;rw[if_pos (by simp)];refine q H2 o t (hB.same s2) ?_ s2.but (.inl rfl) lU;rw[ho]
  show _=some (HO.aB ((GridTalkNeutral.shown (match GridTalk.judged A S l with| .error z=>GridTalk.told z.1 [z.2]| .ok (_,z)=>GridTalk.told 0 [z.1,z.2])).map V.int))
  rw[hj];rfl
 ·intro tr z zs o H2 hj hJ b2 lU no ho;refine⟨_,bJ (aF.of ho),?_⟩;rw[if_neg (by simp)];refine⟨by decide,λd nd=>?_⟩;have s3:aA H2 (aN H2 d (.aB [.int 0])):=aA.laid nd;have hd:aN H2 d (.aB [.int 0]) d=some (.aB [.int 0]):=ao;generalize aN H2 d (.aB [.int 0])=H3 at s3 hd⊢;rw[m_size (hJ.hx.same s3)];refine jQ (hJ.hx.same s3) (hJ.sz.same s3) hJ.last λtz X7=>?_;refine⟨tz,_,rfl,.inr (bR.of X7),λe ne=>⟨d,e,_,_,rfl,rfl,(by rw[aO (aW hd ne)];exact hd),ao,(by show 1+2<=sizeLine;decide),λo2 BJ=>?_⟩⟩;have s4:=s3.trans ((aA.laid (o:=.aB [.int z.1,.int z.2]) ne).trans (aA.laid (o:=.aB [.int 0,.int z.1,.int z.2]) BJ));have s5:=hJ.s.trans s4;refine q _ o2 t (hB.same s5) ?_ s5.but (.inl rfl) (hJ.s.free (s3.free ((aA.laid (o:=.aB [.int z.1,.int z.2]) ne).free BJ)));rw[ao]
  show _=some (HO.aB ((GridTalkNeutral.shown (match GridTalk.judged A S l with| .error z=>GridTalk.told z.1 [z.2]| .ok (_,z)=>GridTalk.told 0 [z.1,z.2])).map V.int))
  rw[hj];rfl
theorem sh_told (c:Int)(l:List Nat):(GridTalkNeutral.shown (GridTalk.told c l)).map V.int=V.int c::vN l:=by
 show V.int c::((l.map λn:Nat=>(n:Int))++[]).map V.int=_;rw[append_nil,map_map];rfl
theorem X8 {H:Hp}{l b:Addr}{xs zs:List V}{Q:VK}(h1:H l=some (.aB xs))(h2:H b=some (.aB zs))(hl:xs.length+zs.length<=sizeLine)(q:∀p Z,H p=none->aA H Z->Z p=some (.aB (xs++zs))->Q (.ref p) Z):rCat (.ref l) (.ref b) H Q:=
 ⟨l,b,xs,zs,rfl,rfl,h1,h2,hl,λp np=>q p _ np (aA.laid np) ao⟩
theorem vL {H0 H:Hp}{X:Xa}{A:Arith}{z:Size}{zs:List Size}{M:Mat}{Ms:List Mat}{k m:Nat}{Q:VK}(hA:dO a H X.p k m)(O:arith k m=some A)(h:Wd a H0 H X A z zs M Ms)(q:∀l Z,H l=none->aA H Z->Z l=some (.aB (vN (fl M)))->Q (.ref l) Z):X3 a [.ref X.x] H Q E0:=
 ⟨X.x,X.p,X.t,X.nb,X.st,X.sz,X.gr,k,m,A,Ms,M,rfl,h.hx,hA,O,h.gr,h.mlast,q⟩
theorem big300:300<=sizeLine:=by decide
theorem Yb (G:aU K mg a):bI P w K mg aq "call_value" a.wX 11 ["board","numbers","rows"] (iy a 9):=G.Uk.bx λfd F=>by
 refine F.ok uF eX (λy A y s H vs Q E hr h=>?_);obtain⟨b,t,nums,rws,av,S,ns,rs,as,rfl,hB,hn,hr1,hp,hav,f9,q⟩:=h;obtain⟨l,rfl,rfl,hl,lq⟩:=dj.Od (.inr rfl) f9;obtain⟨A,O⟩:=isSome_iff_exists.mp hB.ar;rw[st9 S O] at q;obtain⟨p,lD,hF⟩:=hB.bk G O;cases hp with
 |cons hp0 hp1=>
 cases hp1;rename_i nb;obtain⟨hp0,_⟩:=hp0;rw[Bp] at hp0;refine⟨_,(aC (aX 3 uF.nd (aD (jx G) (bB aK (aJ aH bf au)))) (aC (aX 4 uF.nd (jF (cA (BL G) bF) (jF (cA (lC G) bF) (eF (cA (vK G) bF))))) (ak (aG (jF cM (eF (bD sO (bD sO (bK (bG (bL rfl G.Qx))) (Gd vY (by rfl) G.WT (by decide+kernel) (bG (cA (uw G) bF)))) (cA (JN G) bF)))))))),?_⟩;ac_rfl;refine aL (aF.of hr1) (bQ rfl) ⟨b,t,p,nb,rfl,hF,λx st sz gr H1 nx s1 hx n1 n2 n3 d1 d2 d3 l1 l2 l3=>?_⟩
 try dsimp only
 rw[BW hx];refine qJ (X:=⟨x,p,t,nb,st,sz,gr⟩) (av:=[sz,gr]) lD hp0 hl lq ⟨⟨hx,s1,n1,n2,n3,d1,d2,d3⟩,l1,l2,l3⟩ (λz hz=>by simp at hz;rcases hz with rfl|rfl;rw[l2];intro e;cases e;rw[l3];intro e;cases e) (by simp) ?_ ?_
 ·intro c f o H2 hj s2 b2 lU no ho;refine⟨_,bJ (aF.of ho),?_⟩;rw[if_pos (by simp)];refine⟨_,bJ (aF.of ho),?_⟩;rw[if_pos (by simp)];rw[Av.v_err hj] at q;exact q H2 o t (hB.same s2) ho s2.but (.inl rfl) lU
 ·intro tr z zs o H2 hj hJ b2 lU no ho;refine⟨_,bJ (aF.of ho),?_⟩;rw[if_neg (by simp),Pj hJ.hx];refine zc lD hJ ?_ ?_
  ·intro f o2 H3 hbad s3 Yc BJ ho2;refine⟨_,bJ (aF.of ho2),?_⟩;rw[if_pos (by simp)];refine⟨_,bJ (aF.of ho2),?_⟩;rw[if_pos (by simp)];rw[Av.v_bad hj hbad] at q;have s4:=hJ.s.trans s3;exact q H3 o2 t (hB.same s4) ho2 s4.but (.inl rfl) Yc
  ·intro o2 H3 hbad s3 BJ ho2;refine⟨_,bJ (aF.of ho2),?_⟩;have Yd:=hJ.same s3;rw[if_neg (by simp),Pk Yd.hx];refine zf lD Yd (by simp) hbad ?_ ?_
   ·intro f o3 H4 hv s4 b4 no30 Z9 fM;refine⟨_,bJ (aF.of fM),?_⟩;rw[if_pos (by simp)];rw[Av.v_fit hj hbad hv] at q;exact q H4 o3 t (hB.same s4) fM s4.but (.inl rfl) no30
   ·intro M Ms o3 H4 hv hW b4 Z9 fM;refine⟨_,bJ (aF.of fM),?_⟩;rw[if_neg (by simp)];rw[Av.v_ok hj hbad hv] at q;obtain⟨w1,w2,w3⟩:=Av.size_of O lD.XR lq hj hbad hv;have hfl:=Len.Wm w3;refine⟨by decide,λd nd=>?_⟩;have s5:aA H4 (aN H4 d (.aB [.int 0])):=aA.laid nd;have hd:aN H4 d (.aB [.int 0]) d=some (.aB [.int 0]):=ao;generalize aN H4 d (.aB [.int 0])=H5 at s5 hd⊢;rw[m_size (hW.hx.same s5)];refine jQ (hW.hx.same s5) (hW.sz.same s5) hW.last λtz X7=>?_;refine⟨tz,_,rfl,.inr (bR.of X7),λe ne=>?_⟩;have s6:aA H5 (aN H5 e (.aB [.int z.1,.int z.2])):=aA.laid ne;have he:aN H5 e (.aB [.int z.1,.int z.2]) e=some (.aB [.int z.1,.int z.2]):=ao;generalize aN H5 e (.aB [.int z.1,.int z.2])=H6 at s6 he⊢;refine X8 (s6 _ _ hd) he (by show 1+2<=sizeLine;decide) λo4 H7 Ye s7 dR=>?_;have hW7:=hW.same (s5.trans (s6.trans s7))
    try dsimp only
    rw[m_words hW7.hx];refine vL (lD.same hW7.s).ar O hW7 λlw H8 nlw s8 hlw=>?_;refine X8 (s8 _ _ dR) hlw ?_ λo5 H9 no5 s9 Es=>?_
    ·show 3+(vN (fl M)).length<=sizeLine;have:=big300;have e3:(vN (fl M)).length=M.words.flatten.length:=length_map _;lia
    ·have Rn:=hW7.s.trans (s8.trans s9);refine q H9 o5 t (hB.same Rn) ?_ Rn.but (.inl rfl) (hW7.s.free (s8.free no5));rw[Es,sh_told];rfl
inductive spREnt (vs:List V)(H:Hp)(Q:VK)(E:XK):Prop where
 |mk (t:Addr) (z:Size) (i j:Nat) (cI:vs=[.ref t,.int i,.int j]) (cJ:iJ H t z) (cQ:(¬(z.1<=i\/z.2<=j)->∀o Z,H o=none->aA H Z->Z o=some (.aB [])->Q (.ref o) Z)) (dH:((z.1<=i\/z.2<=j)->∀o Z,H o=none->aA H Z->Z o=some (.aB [.int (-6)])->Q (.ref o) Z))
theorem Pn (G:aU K mg a):bI P w K mg aq "refused_entry" a.yH 1 ["size","row","column"] spREnt:=G.Mi.bx λfd F=>by
 refine F.ok Lr (λvs H Q E h=>?_) (λy A y s H vs Q E hr h=>?_)
 ·obtain⟨t,z,i,j,rfl,_⟩:=h;rfl
 obtain⟨t,z,i,j,rfl,ht,q1,q2⟩:=h;refine⟨_,(ak (aG (iB (PW.pt (Vf (bY (pL aR (aJ bT aK au))) (Py (bY (pL bf (aJ bT aK au)))))) (bK dM) (bK (bG (bL rfl G.uN)))))),?_⟩;ac_rfl;refine bw (bR.of ht) (bQ rfl) ?_;ac_rfl;by_cases h1:i<z.1
 ·rw[if_pos (by lia)];refine bw (bR.of ht) (cT rfl) ?_;ac_rfl;by_cases h2:j<z.2
  ·rw[if_pos (by lia)];exact⟨by decide,λo no=>q1 (by lia) o _ no (aA.laid no) ao⟩
  ·rw[if_neg (by lia)];exact⟨by decide,λo no=>q2 (by lia) o _ no (aA.laid no) ao⟩
 ·rw[if_neg (by lia)];exact⟨by decide,λo no=>q2 (by lia) o _ no (aA.laid no) ao⟩
theorem Yg (G:aU K mg a):bI P w K mg aq "call_entry" a.wY 11 ["board","numbers","rows"] (iy a 10):=G.Ul.bx λfd F=>by
 refine F.ok uG eX (λy A y s H vs Q E hr h=>?_);obtain⟨b,t,nums,rws,av,S,ns,rs,as,rfl,hB,hn,hr1,hp,hav,f9,q⟩:=h;obtain⟨i,j,l,rfl,rfl,hi64,hj64,hl,lq⟩:=dj.Oc (.inr rfl) f9;obtain⟨A,O⟩:=isSome_iff_exists.mp hB.ar;rw[st10 S O] at q;obtain⟨p,lD,hF⟩:=hB.bk G O;cases hp with
 |cons hp0 hp1=>
 cases hp1;rename_i nb;obtain⟨hp0,_⟩:=hp0;rw[Bp] at hp0;refine⟨_,(aC (aX 3 uG.nd (aD (jx G) (bB aK (aJ aH bf au)))) (aC (aX 4 uG.nd (jF (cA (BL G) bF) (jF (aD (Pn G) (bC (cA (uw G) bF) (bB (aJ aH aR au) (aJ aH aR au)))) (jF (cA (lC G) bF) (eF (cA (vK G) bF)))))) (ak (aG (jF cM (eF (bK (bB (bL rfl G.Qx) (aJ aH (cA (JN G) bF) (bD jD (bD mZ (aJ aH aR au) (aJ bT (cA (uw G) bF) au)) (aJ aH aR au)) (λy y=>rfl)))))))))),?_⟩;ac_rfl;refine aL (aF.of hr1) (bQ rfl) ⟨b,t,p,nb,rfl,hF,λx st sz gr H1 nx s1 hx n1 n2 n3 d1 d2 d3 l1 l2 l3=>?_⟩
 try dsimp only
 rw[BW hx];refine qJ (X:=⟨x,p,t,nb,st,sz,gr⟩) (av:=[sz,gr]) lD hp0 hl lq ⟨⟨hx,s1,n1,n2,n3,d1,d2,d3⟩,l1,l2,l3⟩ (λz hz=>by simp at hz;rcases hz with rfl|rfl;rw[l2];intro e;cases e;rw[l3];intro e;cases e) (by simp) ?_ ?_
 ·intro c f o H2 hj s2 b2 lU no ho;refine⟨_,bJ (aF.of ho),?_⟩;rw[if_pos (by simp)];refine⟨_,bJ (aF.of ho),?_⟩;rw[if_pos (by simp)];rw[Av.e_err hj] at q;exact q H2 o t (hB.same s2) ho s2.but (.inl rfl) lU
 ·intro tr z zs o H2 hj hJ b2 lU no ho;refine⟨_,bJ (aF.of ho),?_⟩;rw[if_neg (by simp),m_size hJ.hx];refine jQ hJ.hx hJ.sz hJ.last λtz X7=>?_;refine aL (aF.of (hJ.s _ _ hn)) (bQ rfl) (aL (aF.of (hJ.s _ _ hn)) (cT rfl) ⟨tz,z,i,j,rfl,X7,λhout o1 H3 no1 s3 ho1=>?_,λhout o1 H3 no1 s3 ho1=>?_⟩)
  ·refine⟨_,bJ (aF.of ho1),?_⟩;have Yd:=hJ.same s3;rw[if_neg (by simp),Pj Yd.hx];refine zc lD Yd ?_ ?_
   ·intro f o2 H4 hbad s4 Yc BJ ho2;refine⟨_,bJ (aF.of ho2),?_⟩;rw[if_pos (by simp)];refine⟨_,bJ (aF.of ho2),?_⟩;rw[if_pos (by simp)];rw[Av.e_bad hj hout hbad] at q;have s5:=Yd.s.trans s4;exact q H4 o2 t (hB.same s5) ho2 s5.but (.inl rfl) Yc
   ·intro o2 H4 hbad s4 BJ ho2;refine⟨_,bJ (aF.of ho2),?_⟩;have hJ4:=Yd.same s4;rw[if_neg (by simp),Pk hJ4.hx];refine zf lD hJ4 (by simp) hbad ?_ ?_
    ·intro f o3 H5 hv s5 b5 no30 Z9 fM;refine⟨_,bJ (aF.of fM),?_⟩;rw[if_pos (by simp)];rw[Av.e_fit hj hout hbad hv] at q;exact q H5 o3 t (hB.same s5) fM s5.but (.inl rfl) no30
    ·intro M Ms o3 H5 hv hW b5 Z9 fM;refine⟨_,bJ (aF.of fM),?_⟩;rw[if_neg (by simp),m_words hW.hx];rw[Av.e_ok hj hout hbad hv] at q;obtain⟨w1,w2,w3⟩:=Av.size_of O lD.XR lq hj hbad hv;obtain⟨g1,g2,g3⟩:=qF w3;have hi:i<M.rows:=by lia
     have hj':j<M.cols:=by lia
     refine vL (lD.same hW.s).ar O hW λlw H6 nlw s6 hlw=>?_;have Ti:=hW.same s6;refine aL (aF.of (Ti.s _ _ hn)) (bQ rfl) ?_
     try dsimp only
     rw[m_size Ti.hx];refine jQ Ti.hx Ti.sz Ti.last λtz2 htz2=>?_;refine bw (bR.of htz2) (cT rfl) ?_;ac_rfl;refine⟨.inl ⟨by lia,by lia⟩,aL (aF.of (Ti.s _ _ hn)) (cT rfl) ?_⟩;ac_rfl;have hlt:i*M.cols+j<(fl M).length:=by
      rw[g1];have:=mul_le_mul_right M.cols (show i+1<=M.rows from hi);rw[succ_mul] at this;lia
     have e1:((i:Int)*(z.2:Nat)+(j:Nat))=((i*M.cols+j:Nat):Int):=by rw[<-w2];simp
     rw[e1];have hat:M.at_ i j=(fl M)[i*M.cols+j]:=by
      rw[Av.at_eq g2 hi hj',getD_eq_getElem?_getD,getElem?_eq_getElem hlt];rfl
     refine aL (aF.of hlw) (dU (v:=.int (M.at_ i j:Nat)) ?_) ⟨by decide,λo4 Ye=>?_⟩
     ·rw[hat,getElem?_map,getElem?_eq_getElem hlt];rfl
     ·have s7:=Ti.s.trans (aA.laid (o:=.aB [.int 0,.int (M.at_ i j:Nat)]) Ye);exact q _ o4 t (hB.same s7) ao s7.but (.inl rfl) (Ti.s.free Ye)
  ·refine⟨_,bJ (aF.of ho1),?_⟩;rw[if_pos (by simp)];refine⟨_,bJ (aF.of ho1),?_⟩;rw[if_pos (by simp)];rw[Av.e_out hj hout] at q;have s4:=hJ.s.trans s3;exact q H3 o1 t (hB.same s4) ho1 s4.but (.inl rfl) (hJ.s.free no1)
inductive spRSec (vs:List V)(H:Hp)(Q:VK)(E:XK):Prop where
 |mk (l:Addr) (cI:vs=[.ref l]) (cJ:((H l=some (.aB [])/\∀o Z,H o=none->aA H Z->Z o=some (.aB [])->Q (.ref o) Z)\/∃(c:Int) (f:Nat),H l=some (.aB [.int c,.int f])/\∀o Z,H o=none->aA H Z->Z o=some (.aB [.int (c-16),.int f])->Q (.ref o) Z))
theorem oU (G:aU K mg a):bI P w K mg aq "refused_second" a.wZ 1 ["refusal"] spRSec:=G.Ka.bx λfd F=>by
 refine F.ok JW (λvs H Q E h=>?_) (λz A z s H vs Q E hr h=>?_)
 ·obtain⟨l,rfl,_⟩:=h;rfl
 obtain⟨l,rfl,h⟩:=h;refine⟨_,(ak (aG (iB (qX aK (λz=>rfl)) (bK (bB (bD lF (aJ aH aK au) (bL rfl G.SECOND)) (aJ aH aK au))) (bK dM)))),?_⟩;ac_rfl;rcases h with⟨hl,q⟩|⟨c,f,hl,q⟩
 ·refine⟨_,bJ (aF.of hl),?_⟩;rw[if_neg (by simp)];exact⟨by decide,λo no=>q o _ no (aA.laid no) ao⟩
 ·refine⟨_,bJ (aF.of hl),?_⟩;rw[if_pos (by simp)];refine aL (aF.of hl) (bQ rfl) ?_;ac_rfl;refine aL (aF.of hl) (cT rfl) ?_;ac_rfl;exact⟨by decide,λo no=>q o _ no (aA.laid no) ao⟩
theorem find_some {p:Nat->Bool}{n i:Nat}(hi:i<n)(hp:p i=true)(h:∀k,k<i->p k=false):(range n).find? p=some i:=by
 rw[List.find?_range_eq_some];exact⟨hp,List.mem_range.mpr hi,λj hj=>by rw[h j hj];rfl⟩
theorem find_none {p:Nat->Bool}{n:Nat}(h:∀k,k<n->p k=false):(range n).find? p=none:=by
 rw[List.find?_eq_none];intro k O;rw[h k (List.mem_range.mp O)];decide
abbrev difs (ws us:List Nat):Option Nat:=(range ws.length).find? λk=>ws.getD k 0 != us.getD k 0
inductive spAAl (vs:List V)(H:Hp)(Q:VK)(E:XK):Prop where
 |mk (l k:Addr) (ws us:List Nat) (c:Nat) (cI:vs=[.ref l,.ref k,.int c]) (cJ:H l=some (.aB (vN ws))) (cQ:H k=some (.aB (vN us))) (dH:ws.length=us.length) (fC:ws.length<=256) (gF:1<=c) (iQ:c<=16) (kE:(∀d o Z,difs ws us=some d->H o=none->aA H Z->Z o=some (.aB [.int 0,.int 0,.int (d/c:Nat),.int (d%c:Nat)])->Q (.ref o) Z)) (ud:(difs ws us=none->∀o Z,H o=none->aA H Z->Z o=some (.aB [.int 1])->Q (.ref o) Z))
theorem vN_at {ws:List Nat}{i:Nat}(h:i<ws.length):(vN ws)[i]? =some (.int (ws.getD i 0:Nat)):=by
 rw[getElem?_map,getD_eq_getElem?_getD,getElem?_eq_getElem h];rfl
theorem Q9 (G:aU K mg a):bI P w K mg aq "answer_alike" a.Aw 1 ["words","other_words","width"] spAAl:=G.Ov.bx λfd F=>by
 refine F.ok yD (λvs H Q E h=>?_) (λz A z s H vs Q E hr h=>?_)
 ·obtain⟨l,k,ws,us,c,rfl,_⟩:=h;rfl
 obtain⟨l,k,ws,us,c,rfl,hl,O,hlk,hlen,hc1,hc2,q1,q2⟩:=h;refine⟨_,(aC (fB PassesOwn.never rfl (lE rfl G.kW (bG (cF bU (by rfl) G.fX PySem.boot_len (bG aK)))) (bM (i:=3) yD.nd rfl (Or.inl rfl)) (ak (cC (bY (Mx (aJ aH aK bF (λz z=>rfl)) (aJ aH aR bF (λz z=>rfl)))) (ak (aG (bK (bC (bL rfl G.Sw) (bC (bL rfl G.Qy) (bB (bD YZ bF bf) (bD zY bF bf))))))) bN)))
   (ak (aG (bK (bG (bL rfl G.ALIKE)))))),?_⟩
 simp_arith! [eH];have ew:(vN ws).length=ws.length:=length_map _;refine⟨l,_,rfl,.inl (aF.of hl),?_⟩;rw[ew];refine⟨by lia,by lia,?_⟩;rw[toNat_natCast];refine yc (n:=ws.length) (λi σ Z=>Z=H/\(∀j,j<i->ws.getD j 0=us.getD j 0)/\∃v,σ=[some (.ref l),some (.ref k),some (.int c),v]) ⟨rfl,λj hj=>absurd hj (by lia),none,rfl⟩ ?_ ?_
 ·rintro i σ Z hi ⟨rfl,hj,v,rfl⟩;ac_rfl;rw[Int.zero_add];refine aL (aF.of hl) (dU (vN_at hi)) (aL (aF.of O) (dU (vN_at (by lia))) ?_);ac_rfl;by_cases he:ws.getD i 0=us.getD i 0
  ·first
    |rw[if_pos (by rw[he])]
    |rw[if_neg (by rw[he];simp)]
   refine⟨λj hj2=>?_,_,rfl⟩;by_cases e:j=i
   ·rw[e];exact he
   ·exact hj j (by lia)
  ·first
    |rw[if_neg (by lia)]
    |rw[if_pos (by lia)]
   refine⟨⟨by lia,by lia⟩,by lia,by decide,λo no=>?_⟩;refine q1 i o _ (find_some hi (by simpa using he) λj h2=>by simpa using hj j h2) no (aA.laid no) ?_;rw[ao,Int.natCast_ediv,Int.natCast_emod]
 ·rintro σ Z ⟨rfl,hj,v,rfl⟩;ac_rfl;exact⟨by decide,λo no=>q2 (find_none λj h2=>by simpa using hj j h2) o _ no (aA.laid no) ao⟩
theorem ne_sz {K:Frag}{H:Hp}{t u:Addr}{z y:Size}(h:iJ H t z)(h':iJ H u y){Q:VK}(q:Q (.bl (!(z.1 == y.1&&z.2 == y.2))) H):rNeD K (.ref t) (.ref u) H Q:=
 ⟨_,_,U4 h,U4 h',rfl,rfl,by rw[eqv_sz];exact q⟩
theorem Yh (G:aU K mg a):bI P w K mg aq "call_alike" a.xg 11 ["board","numbers","rows"] (iy a 11):=G.Um.bx λfd F=>by
 refine F.ok jf eX (λr A r s H vs Q E hr h=>?_);obtain⟨b,t,nums,rws,av,S,ns,rs,as,rfl,hB,hn,hr1,hp,hav,f9,q⟩:=h;obtain⟨l,k,rfl,rfl,hl,hkl,lq,QZ⟩:=dj.Jz (.inr rfl) f9;obtain⟨A,O⟩:=isSome_iff_exists.mp hB.ar;rw[st11 S O] at q;obtain⟨p,lD,hF⟩:=hB.bk G O;cases hp with
 |cons hp0 hp1=>
 cases hp1 with
 |cons hp1 hp2=>
 cases hp2;rename_i nb nb';obtain⟨hp0,_⟩:=hp0;obtain⟨hp1,_⟩:=hp1;rw[Bp] at hp0 hp1;have hu2:=hr.units;refine⟨_,(aC (aX 3 jf.nd (aD (jx G) (bB aK (aJ aH bf au))))
   (aC (aX 4 jf.nd (aD (jx G) (bB aK (aJ aH bf au)))) (aC (aX 5 jf.nd (jF (cA (BL G) bF) (eF (aD (oU G) (bG (cA (BL G) cM)))))) (aC (cC (qX iV (λr=>rfl)) (ak (aG iV)) bN) (aC (cC (Y4 (op_neD hu2) (cA (uw G) bF) (cA (uw G) cM) (MK _)) (ak (aG (bD sO (bK (bB (bL rfl G.Sw) (bL rfl G.WR))) (Gd vY (by rfl) G.WT (by decide+kernel) (bG (cA (uw G) bF)))))) bN)
   (aC (aX 5 jf.nd (jF (cA (lC G) bF) (eF (aD (oU G) (bG (cA (lC G) cM)))))) (aC (aX 5 jf.nd (jF iV (jF (cA (vK G) bF) (eF (aD (oU G) (bG (cA (vK G) cM))))))) (ak (aG (jF iV (eF (aD (Q9 G) (bC (cA (JN G) bF) (bB (cA (JN G) cM) (aJ bT (cA (uw G) bF) au))))))))))))))),?_⟩
 ac_rfl;refine aL (aF.of hr1) (bQ rfl) ⟨b,t,p,nb,rfl,hF,λx st sz gr H1 nx s1 hx n1 n2 n3 d1 d2 d3 l1 l2 l3=>?_⟩;refine aL (aF.of (s1 _ _ hr1)) (cT rfl) ⟨b,t,p,nb',rfl,λZ s=>hF Z (s1.trans s),λy st' sz' gr' H2 ny s2 hy n1' n2' n3' d1' d2' d3' l1' l2' l3'=>?_⟩
 try dsimp only
 have X0:Nw a H H2 ⟨x,p,t,nb,st,sz,gr⟩:=Nw.same ⟨⟨hx,s1,n1,n2,n3,d1,d2,d3⟩,l1,l2,l3⟩ s2;have Y0:Nw a H H2 ⟨y,p,t,nb',st',sz',gr'⟩:=⟨⟨hy,s1.trans s2,s1.free n1',s1.free n2',s1.free n3',d1',d2',d3'⟩,l1',l2',l3'⟩;have nn:∀{u v:Addr}{o:HO},H1 u=some o->H1 v=none->u≠v:=λh1 h2 e=>by rw[e,h2] at h1;cases h1
 have e11:=nn l1 n1';have e12:=nn l1 n2';have e13:=nn l1 n3';have e21:=nn l2 n1';have e22:=nn l2 n2';have e23:=nn l2 n3';have e31:=nn l3 n1';have e32:=nn l3 n2';have e33:=nn l3 n3';clear nn;rw[BW X0.hx];refine qJ (av:=[sz,gr,st',sz',gr']) lD hp0 hl lq X0 (λz hz=>?_) (by simp) ?_ ?_
 ·simp at hz;rcases hz with rfl|rfl|rfl|rfl|rfl
  ·rw[X0.l2];intro e;cases e
  ·rw[X0.l3];intro e;cases e
  ·rw[l1'];intro e;cases e
  ·rw[l2'];intro e;cases e
  ·rw[l3'];intro e;cases e
 ·intro c f o H3 hj s3 b3 lU no ho;refine⟨_,bJ (aF.of ho),?_⟩;rw[if_pos (by simp)];refine⟨_,bJ (aF.of ho),?_⟩;rw[if_pos (by simp)];rw[Av.a_err hj] at q;exact q H3 o t (hB.same s3) ho s3.but (.inl rfl) lU
 ·intro tr z zs o H3 hj hJ b3 lU no ho;refine⟨_,bJ (aF.of ho),?_⟩;have Y3:Nw a H H3 ⟨y,p,t,nb',st',sz',gr'⟩:=Y0.but b3 (λu hu=>by simp at hu;rcases hu with rfl|rfl;exact⟨_,X0.l1⟩;exact⟨_,X0.l2⟩) (λu hu=>by simp at hu;rcases hu with rfl|rfl;exact n1;exact n2) (by simp[Ne.symm e11,Ne.symm e21]) (by simp[Ne.symm e12,Ne.symm e22]) (by simp[Ne.symm e13,Ne.symm e23])
  rw[if_neg (by simp),BW Y3.hx];refine qJ (av:=[sz',gr',gr]) lD hp1 hkl QZ Y3 (λz hz=>?_) (by simp) ?_ ?_
  ·simp at hz;rcases hz with rfl|rfl|rfl
   ·rw[Y3.l2];intro e;cases e
   ·rw[Y3.l3];intro e;cases e
   ·rw[hJ.l3];intro e;cases e
  ·intro c f o2 H4 hj2 s4 b4 Yc BJ ho2;refine⟨o2,rfl,.inr ⟨c,f,ho2,λo3 H5 Z9 s5 fM=>?_⟩⟩;refine⟨_,bJ (aF.of fM),?_⟩;rw[if_pos (by simp)];rw[Av.a_err2 hj hj2] at q;have s6:=s4.trans s5;exact q H5 o3 t (hB.same s6) fM s6.but (.inl rfl) (s4.free Z9)
  ·intro tr2 z2 zs2 o2 H4 hj2 hJY b4 Yc BJ ho2;have JX4:=hJ.but b4 (λu hu=>by simp at hu;rcases hu with rfl|rfl;exact⟨_,Y3.l1⟩;exact⟨_,Y3.l2⟩) (λu hu=>by simp at hu;rcases hu with rfl|rfl;exact Y0.n1;exact Y0.n2) (λu hu=>by simp at hu;rcases hu with rfl|rfl<;>simp) (by simp[e11,e12]) (by simp[e21,e22]) (by simp[e31,e32])
   refine⟨o2,rfl,.inl ⟨ho2,λo3 H5 Z9 s5 fM=>?_⟩⟩;refine⟨_,bJ (aF.of fM),?_⟩;rw[if_neg (by simp)];have Pr:=JX4.same s5;have JY5:=hJY.same s5;rw[m_size Pr.hx];refine jQ Pr.hx Pr.sz Pr.last λtz X7=>?_;rw[m_size JY5.hx];refine jQ JY5.hx JY5.sz JY5.last λtz2 htz2=>ne_sz X7 htz2 ⟨_,rfl,?_⟩;by_cases hz:z.1=z2.1/\z.2=z2.2
   ·rw[if_neg (by simp[hz.1,hz.2]),Pj Pr.hx];refine zc lD Pr ?_ ?_
    ·intro f o4 H6 hbad s6 no40 Ye dR;refine⟨_,bJ (aF.of dR),?_⟩;rw[if_pos (by simp)];refine⟨_,bJ (aF.of dR),?_⟩;rw[if_pos (by simp)];refine⟨_,bJ (aF.of dR),?_⟩;rw[if_pos (by simp)];rw[Av.a_bad hj hj2 hz hbad] at q;have s7:=Pr.s.trans s6;exact q H6 o4 t (hB.same s7) dR s7.but (.inl rfl) no40
    ·intro o4 H6 hbad s6 Ye dR;refine⟨_,bJ (aF.of dR),?_⟩;have Tj:=Pr.same s6;have JY6:=JY5.same s6;rw[if_neg (by simp),Pj JY6.hx];refine zc lD JY6 ?_ ?_
     ·intro f o5 H7 DW s7 no50 no5 Es;refine⟨o5,rfl,.inr ⟨-7,f,Es,λo6 H8 no6 s8 ho6=>?_⟩⟩;refine⟨_,bJ (aF.of ho6),?_⟩;rw[if_pos (by simp)];refine⟨_,bJ (aF.of ho6),?_⟩;rw[if_pos (by simp)];rw[Av.a_bad2 hj hj2 hz hbad DW] at q;have s9:=JY6.s.trans (s7.trans s8);exact q H8 o6 t (hB.same s9) ho6 s9.but (.inl rfl) (JY6.s.free (s7.free no6))
     ·intro o5 H7 DW s7 no5 Es;refine⟨o5,rfl,.inl ⟨Es,λo6 H8 no6 s8 ho6=>?_⟩⟩;refine⟨_,bJ (aF.of ho6),?_⟩;have JX8:=Tj.same (s7.trans s8);have JY8:=JY6.same (s7.trans s8);rw[if_neg (by simp),Pk JX8.hx];refine zf lD JX8 (by simp) hbad ?_ ?_
      ·intro f o7 H9 hv s9 b9 no70 no7 Tn;refine⟨_,bJ (aF.of Tn),?_⟩;rw[if_pos (by simp)];refine⟨_,bJ (aF.of Tn),?_⟩;rw[if_pos (by simp)];rw[Av.a_fit hj hj2 hz hbad DW hv] at q;exact q H9 o7 t (hB.same s9) Tn s9.but (.inl rfl) no70
      ·intro M Ms o7 H9 hv hW b9 no7 Tn;refine⟨_,bJ (aF.of Tn),?_⟩;have JY9:=JY8.but b9 (λu hu=>by simp at hu;subst hu;exact⟨_,JX8.l3⟩) (λu hu=>by simp at hu;subst hu;exact n3) (λu hu=>by simp at hu;subst hu;simp) (by simp[Ne.symm e31]) (by simp[Ne.symm e32]) (by simp[Ne.symm e33]);rw[if_neg (by simp),Pk JY9.hx];refine zf lD JY9 (by simp) DW ?_ ?_
       ·intro f o8 H10 hv2 Rn b10 no80 no8 ho8;refine⟨o8,rfl,.inr ⟨-8,f,ho8,λo9 H11 no9 Ro ho9=>?_⟩⟩;refine⟨_,bJ (aF.of ho9),?_⟩;rw[if_pos (by simp)];rw[Av.a_fit2 hj hj2 hz hbad DW hv hv2] at q;have s12:=Rn.trans Ro;exact q H11 o9 t (hB.same s12) ho9 s12.but (.inl rfl) (Rn.free no9)
       ·intro M2 Ms2 o8 H10 hv2 hW2 b10 no8 ho8;have WX10:=hW.but b10 (λu hu=>by simp at hu;subst hu;exact⟨[],JY9.l3⟩) (λu hu=>by simp at hu;subst hu;exact Y0.n3) (by simp[e23]) (by simp[e33]);refine⟨o8,rfl,.inl ⟨ho8,λo9 H11 no9 Ro ho9=>?_⟩⟩;refine⟨_,bJ (aF.of ho9),?_⟩;have WX11:=WX10.same Ro;have WY11:=hW2.same Ro;rw[if_neg (by simp),m_words WX11.hx];rw[Av.a_ok hj hj2 hz hbad DW hv hv2] at q;obtain⟨w1,w2,w3⟩:=Av.size_of O lD.XR lq hj hbad hv;obtain⟨w1',w2',w3'⟩:=Av.size_of O lD.XR QZ hj2 DW hv2;obtain⟨g1,g2,g3⟩:=qF w3;obtain⟨g1',g2',g3'⟩:=qF w3';have er:M2.rows=M.rows:=by rw[w1,w1'];exact hz.1.symm
        have ec:M2.cols=M.cols:=by rw[w2,w2'];exact hz.2.symm
        rw[Av.diff g2 g2' er ec, <-g1] at q;refine vL (lD.same WX11.s).ar O WX11 λlw H12 nlw s12 hlw=>?_;have WX12:=WX11.same s12;have WY12:=WY11.same s12
        try dsimp only
        rw[m_words WY12.hx];refine vL (lD.same WY12.s).ar O WY12 λlw2 H13 nlw2 s13 hlw2=>?_;have IW:=WX12.same s13
        try dsimp only
        rw[m_size IW.hx];refine jQ IW.hx IW.sz IW.last λtz3 htz3=>?_;have hsm:=mul_le_mul w3.r2 w3.c2;refine bw (bR.of htz3) (cT rfl) ⟨lw,lw2,fl M,fl M2,M.cols,by rw[w2],s13 _ _ hlw,hlw2,by rw[g1,g1',er,ec],by lia,w3.c1,w3.c2,λd o10 H14 hd no10 S9 ho10=>?_,λhd o10 H14 no10 S9 ho10=>?_⟩
        ·have s15:=IW.s.trans S9;have hd:((range (fl M).length).find? λk=>(fl M).getD k 0 != (fl M2).getD k 0)=some d:=hd;rw[hd] at q;exact q H14 o10 t (hB.same s15) ho10 s15.but (.inl rfl) (IW.s.free no10)
        ·have s15:=IW.s.trans S9;have hd:((range (fl M).length).find? λk=>(fl M).getD k 0 != (fl M2).getD k 0)=none:=hd;rw[hd] at q;exact q H14 o10 t (hB.same s15) ho10 s15.but (.inl rfl) (IW.s.free no10)
   ·rw[if_pos (by
     rw[Bool.not_eq_true',Bool.and_eq_false_iff];by_cases e:z.1=z2.1
     ·exact .inr (by simpa using λe2=>hz ⟨e,e2⟩)
     ·exact .inl (by simpa using e))]
    rw[Av.a_size hj hj2 hz] at q;refine⟨by decide,λd nd=>?_⟩;have s6:aA H5 (aN H5 d (.aB [.int 0,.int 1])):=aA.laid nd;have hd:aN H5 d (.aB [.int 0,.int 1]) d=some (.aB [.int 0,.int 1]):=ao;generalize aN H5 d (.aB [.int 0,.int 1])=H6 at s6 hd⊢;have Tj:=Pr.same s6;rw[m_size Tj.hx];refine jQ Tj.hx Tj.sz Tj.last λtz4 htz4=>?_;refine⟨tz4,_,rfl,.inr (bR.of htz4),λe ne=>?_⟩;have s7:aA H6 (aN H6 e (.aB [.int z.1,.int z.2])):=aA.laid ne;have he:aN H6 e (.aB [.int z.1,.int z.2]) e=some (.aB [.int z.1,.int z.2]):=ao;generalize aN H6 e (.aB [.int z.1,.int z.2])=H7 at s7 he⊢;refine X8 (s7 _ _ hd) he (by show 2+2<=sizeLine;decide) λo4 H8 Ye s8 dR=>?_;have s9:=Tj.s.trans (s7.trans s8);exact q H8 o4 t (hB.same s9) dR s9.but (.inl rfl) (Tj.s.free (s7.free Ye))
abbrev Written (p:Int):Prop:=p=0\/p=1\/p=2\/p=3\/p=4\/p=5\/p=6\/p=7\/p=8\/p=9\/p=10\/p=11
theorem DX {p:Int}{x:Nat×Nat}(h:PyXqapaa.shape p=some x):Written p:=by
 by_cases h0:Written p
 ·exact h0
 ·simp only[Written,not_or] at h0;obtain⟨a0,a1,a2,a3,a4,a5,a6,a7,a8,a9,a10,a11⟩:=h0;unfold PyXqapaa.shape at h;rw[if_neg a0,if_neg a1,if_neg a2,if_neg a3,if_neg a4,if_neg a5,if_neg a6,if_neg a7,if_neg a8,if_neg a9,if_neg a10,if_neg a11] at h;cases h
theorem kk_two {p:Int}{n k:Nat}(h:PyXqapaa.shape p=some (n,k)):k<=2:=by
 rcases DX h with rfl|rfl|rfl|rfl|rfl|rfl|rfl|rfl|rfl|rfl|rfl|rfl<;>(injection h with h;injection h with h1 h2;lia)
theorem entry (G:aU K mg a){p:Int}{n k:Nat}(h:PyXqapaa.shape p=some (n,k)):∃(tr f:Addr) (nm:Str),
  (∀(H:Hp) (Q:VK),Q (.ref tr) H->PN K (.ref a.Qv) (.int p) H Q)/\(∀H:Hp,bR K H tr [.int n,.int k,.ref f])/\bI P w K mg aq nm f 20 ["board","numbers","rows"] (iy a p):=by
 rcases DX h with rfl|rfl|rfl|rfl|rfl|rfl|rfl|rfl|rfl|rfl|rfl|rfl<;>(injection h with h;injection h with h1 h2;subst h1 h2)
 ·exact⟨_,_,_,λH Q q=>bw (G.jh H) rfl q,G.s_CALLS_0,(Kd G).mono (by decide)⟩
 ·exact⟨_,_,_,λH Q q=>bw (G.jh H) rfl q,G.s_CALLS_1,(Ur G).mono (by decide)⟩
 ·exact⟨_,_,_,λH Q q=>bw (G.jh H) rfl q,G.s_CALLS_2,(Xl G).mono (by decide)⟩
 ·exact⟨_,_,_,λH Q q=>bw (G.jh H) rfl q,G.s_CALLS_3,(YL G).mono (by decide)⟩
 ·exact⟨_,_,_,λH Q q=>bw (G.jh H) rfl q,G.s_CALLS_4,(Xo G).mono (by decide)⟩
 ·exact⟨_,_,_,λH Q q=>bw (G.jh H) rfl q,G.s_CALLS_5,(Xm G).mono (by decide)⟩
 ·exact⟨_,_,_,λH Q q=>bw (G.jh H) rfl q,G.s_CALLS_6,(Xp G).mono (by decide)⟩
 ·exact⟨_,_,_,λH Q q=>bw (G.jh H) rfl q,G.s_CALLS_7,(d_call_dot G).mono (by decide)⟩
 ·exact⟨_,_,_,λH Q q=>bw (G.jh H) rfl q,G.s_CALLS_8,(X5 G).mono (by decide)⟩
 ·exact⟨_,_,_,λH Q q=>bw (G.jh H) rfl q,G.s_CALLS_9,(Yb G).mono (by decide)⟩
 ·exact⟨_,_,_,λH Q q=>bw (G.jh H) rfl q,G.s_CALLS_10,(Yg G).mono (by decide)⟩
 ·exact⟨_,_,_,λH Q q=>bw (G.jh H) rfl q,G.s_CALLS_11,(Yh G).mono (by decide)⟩
theorem map_at {l:List Int}{n:Nat}{z:Int}{r:List Int}(h:l.drop n=z::r):(l.map V.int)[n]? =some (.int z)/\l.drop (n+1)=r/\n<l.length:=by
 have h0:l[n]? =some z:=by
  have:=congrArg (λx=>x[0]?) h;simp at this;simpa using this
 refine⟨by rw[getElem?_map,h0];rfl,?_,(List.getElem?_eq_some_iff.mp h0).1⟩;have:=congrArg (List.drop 1) h;rw[drop_drop] at this;simpa using this
theorem iI.ins {H:Hp}{r c:Addr}{n:Nat}(h:iI a H r c n):∃dx,H r=some (.ins a.cG dx (lO c n)):=h
theorem xX {H:Hp}{r c:Addr}{n:Nat}{av:List Addr}{b t:Addr}{S:State}(hR:iI a H r c n)(hB:cP a H av b t S):Apart a H av b t r:=by
 obtain⟨dx,e⟩:=hR;obtain⟨db,p,ts,h1,h2,h3,h4⟩:=hB.ex;refine⟨vg e h1 (by intro z;injection z with _ _ z;exact rd_ne_bd z),vg e h3 (by intro z;cases z),.inr λxs z=>?_,λh c e2 ⟨d,z⟩=>?_,λk m ⟨d,z⟩=>?_⟩
 ·rw[e] at z;cases z
 ·rw[e] at z;injection z with z;injection z with _ _ z;exact rd_ne_gr z
 ·rw[e] at z;injection z with z;injection z with _ _ z;exact rd_ne_ar z
theorem rd_nf {H:Hp}{r c:Addr}{n:Nat}(hR:iI a H r c n):∀z∈[r],∀o u,H z≠some (.j4 o u):=λz hz o u e=>by
 simp at hz;subst hz;obtain⟨dx,h⟩:=hR;rw[h] at e;cases e
inductive spNext (K:Frag)(a:Ad)(vs:List V)(H:Hp)(Q:VK)(E:XK):Prop where
 |mk (b t r c:Addr) (av:List Addr) (S:State) (l:List Int) (n:Nat) (p:Int) (rest:List Int) (nn kk:Nat) (xs:List (List Int)) (tt:List Int) (cI:vs=[.ref b,.ref r]) (cJ:cP a H av b t S) (cQ:iI a H r c n) (dH:uT K H c (l.map V.int)) (fC:(∀z∈av,H z≠none)) (gF:r∉av) (iQ:l.drop n=p::rest) (kE:PyXqapaa.shape p=some (nn,kk)) (ud:nn<=rest.length) (Bm:PyFlat.rows kk (rest.drop nn)=some (xs,tt)) (zP:asked1 ((p::rest.take nn)::xs)=true) (Ii:∀(Z:Hp) (q t':Addr) (n':Nat),cP a Z av b t' (GridTalkNeutral.step S ((p::rest.take nn)::xs)).1->iI a Z r c n'->l.drop n'=tt->n<n'->Z q=some (.aB ((GridTalkNeutral.step S ((p::rest.take nn)::xs)).2.map V.int))->But [b,t,r] H Z->(t'=t\/H t'=none)->H q=none->Q (.ref q) Z)
theorem Uu (G:aU K mg a):bI P w K mg aq "next_answer" a.Ek 21 ["board","reader"] (spNext K a):=G.QM.bx λfd F=>by
 refine F.ok lZ (λvs H Q E h=>?_) (λu A u s H vs Q E hr h=>?_)
 ·obtain⟨b,t,r,c,av,S,l,n,p,rest,nn,kk,xs,tt,rfl,_⟩:=h;rfl
 obtain⟨b,t,r,c,av,S,l,n,p,rest,nn,kk,xs,tt,rfl,hB,hR,hS,hav,hrav,hd,hsh,hnn,Pu,f9,q⟩:=h;obtain⟨tr,f,nm,hix,htr,D⟩:=entry (P:=P) (w:=w) (aq:=aq) G hsh;obtain⟨m1,m2,m3⟩:=map_at hd;refine⟨_,(aC (aX 2 lZ.nd (aJ bT (jc rfl G.CALLS) (cA (Eo G) aR) (λu u=>rfl))) (aC (aX 3 lZ.nd (wg (O2 G) aR (bG (aJ bT bf au)))) (aC (aX 4 lZ.nd (bK dM)) (aC (qU PassesOwn.never (bY (pL (cF bU (by rfl) G.fX PySem.boot_len (bG cM)) (aJ bT bf au))) (ak (eZ (iZ plainAttrs_list PySem.F.slot_list_append PySem.F.type_list_append gK cM (bG (cA (Io G) aR))))))
   (ak (aG (jT (aJ bT bf au) (bC aK (bB bF cM))))))))),?_⟩
 simp_arith! [ZV hR (show(Str.ofString "take_number")≠"calls" by decide+kernel) (show(Str.ofString "take_number")≠"place" by decide+kernel)];refine⟨r,c,n,_,.int p,rfl,hR,hS,m1,λH1 BK b1=>hix _ _ ?_⟩;have hB1:=hB.but b1 (λz hz=>by simp at hz;subst hz;exact xX hR hB);have hS1:=hS.but b1 (rd_nf hR);simp_arith! [ZV BK (show(Str.ofString "take_row")≠"calls" by decide+kernel) (show(Str.ofString "take_row")≠"place" by decide+kernel)];refine bw (htr H1) (bQ rfl) ⟨r,c,n+1,nn,_,rfl,BK,hS1,?_,λH2 nums Xh b2 hnf hn=>?_⟩
 ·rw[length_map];have e:=congrArg length m2;rw[length_drop] at e;lia
 have hB2:=hB1.but b2 (λz hz=>by simp at hz;subst hz;exact xX BK hB1);have hS2:=hS1.but b2 (rd_nf BK);have en:((l.map V.int).drop (n+1)).take nn=(rest.take nn).map V.int:=by rw[<-map_drop,m2,map_take]
 rw[en] at hn;have d2:l.drop (n+1+nn)=rest.drop nn:=by rw[<-drop_drop,m2]
 ac_rfl;refine⟨zero_le _,λjB nrw=>?_⟩;have s3:aA H2 (aN H2 jB (.aB [])):=aA.laid nrw;have h3:aN H2 jB (.aB []) jB=some (.aB []):=ao;have nnr:nums≠jB:=aW hn nrw;have f3:H jB=none:=by
  have e1:jB≠r:=λz=>by obtain⟨dx,e⟩:=Xh;rw[z,e] at nrw;cases nrw
  cases e:H jB with
  |none=>rfl
  |some o=>rw[b2 _ _ (b1 _ _ e (by simp[e1])) (by simp[e1])] at nrw;cases nrw
 have f2:H nums=none:=by
  have e1:nums≠r:=λz=>by obtain⟨dx,e⟩:=BK;rw[z,e] at hnf;cases hnf
  cases e:H nums with
  |none=>rfl
  |some o=>rw[b1 _ _ e (by simp[e1])] at hnf;cases hnf
 have b3:But [r] H (aN H2 jB (.aB [])):=b1.trans (b2.trans s3.but);have hn3:=s3 _ _ hn;have hB3:=hB2.same s3;have hS3:=hS2.same s3;have SN:iI a (aN H2 jB (.aB [])) r c (n+1+nn):=let ⟨dx,e⟩:=Xh;⟨dx,s3 _ _ e⟩;generalize aN H2 jB (.aB [])=H3 at*;have nrt:jB≠t:=λz=>by obtain⟨_,_,_,_,_,e,_⟩:=hB.ex;rw[z,e] at f3;cases f3
 have nrb:jB≠b:=λz=>by obtain⟨_,_,_,e,_⟩:=hB.ex;rw[z,e] at f3;cases f3
 have nra:jB∉av:=λz=>hav _ z f3;have nnt:nums≠t:=λz=>by obtain⟨_,_,_,_,_,e,_⟩:=hB.ex;rw[z,e] at f2;cases f2
 rw[<-d2] at Pu;have hxl:=Flat.KC Pu;refine qW (λσ Z=>σ=[some (.ref b),some (.ref r),some (.ref tr),some (.ref nums),some (.ref jB)]/\∃(as:List Addr) (nj:Nat),as.length<=kk/\iI a Z r c nj/\
   Z nums=some (.aB ((rest.take nn).map V.int))/\Z jB=some (.aB (as.map V.ref))/\Paired (λq x=>Z q=some (.aB (x.map V.int))/\q∉(t::av)/\q≠jB) as (xs.take as.length)/\PyFlat.rows (kk-as.length) (l.drop nj)=some (xs.drop as.length,tt)/\But [r] H Z/\n<nj)
  (λσ Z=>match Z jB with|some (.aB ys)=>kk-ys.length|_=>0) ⟨rfl,[],n+1+nn,zero_le _,SN,hn3,h3,.nil,Pu,b3,by lia⟩ ?_ ?_
 ·rintro σ H4 ⟨rfl,as,nj,ha,qQ,hn4,Yi,hp4,hr4,b4,hnj⟩;have Px:=hB.but b4 (λz hz=>by simp at hz;subst hz;exact xX hR hB);have hS4:=hS.but b4 (rd_nf hR);ac_rfl;refine⟨jB,_,rfl,.inl (aF.of Yi),bw (htr H4) (cT rfl) ?_⟩;ac_rfl;rw[length_map];by_cases hj:as.length<kk
  ·rw[if_pos (by lia)];obtain⟨k',ek⟩:∃k',kk-as.length=k'+1:=⟨kk-as.length-1,by lia⟩;rw[ek] at hr4;obtain⟨z,r',ys,er,hz,hr5,exs⟩:=Flat.RP hr4;obtain⟨g1,g2,g3⟩:=map_at er;simp_arith! [Ge,ZV qQ (show(Str.ofString "take_counted_row")≠"calls" by decide+kernel) (show(Str.ofString "take_counted_row")≠"place" by decide+kernel)];refine⟨.inl ⟨rfl,_,aF.of Yi⟩,r,c,nj,z,_,rfl,qQ,hS4,g1,?_,λH5 pq hR5 b5 np hpq=>?_⟩
   ·rw[length_map];have e:=congrArg length g2;rw[length_drop] at e;lia
   have e5:((l.map V.int).drop (nj+1)).take z=(r'.take z).map V.int:=by rw[<-map_drop,g2,map_take]
   rw[e5] at hpq;have nr:r≠jB:=λe=>by obtain⟨dx,q⟩:=qQ;rw[e,Yi] at q;cases q
   have hw5:=b5 _ _ Yi (by simp[Ne.symm nr]);refine⟨jB,_,_,rfl,rfl,hw5,?_,?_⟩
   ·rw[length_map];exact cD (by
     have:=kk_two hsh;lia)
   have npw:pq≠jB:=λe=>by rw[e,Yi] at np;cases np
   have npr:pq≠r:=λe=>by obtain⟨dx,q⟩:=qQ;rw[e,q] at np;cases np
   have fpq:H pq=none:=by
    cases e:H pq with
    |none=>rfl
    |some o=>rw[b4 _ _ e (by simp[npr])] at np;cases np
   have ZX:pq≠t:=λe=>by obtain⟨_,_,_,_,_,q,_⟩:=hB.ex;rw[e,q] at fpq;cases fpq
   have npa:pq∉av:=λe=>hav _ e fpq;have nnr2:nums≠r:=λe=>by obtain⟨dx,q⟩:=qQ;rw[e,q] at hn4;cases hn4
   have w6:But [jB] H5 (aN H5 jB (.aB (as.map V.ref++[.ref pq]))):=But.wrote;have hw6:aN H5 jB (.aB (as.map V.ref++[.ref pq])) jB=some (.aB ((as++[pq]).map V.ref)):=by rw[ao,map_append];rfl
   generalize aN H5 jB (.aB (as.map V.ref++[.ref pq]))=H6 at*;refine⟨⟨as++[pq],nj+1+z,?_,?_,?_,hw6,?_,?_,?_,?_⟩,?_⟩
   ·rw[length_append];simp;lia
   ·obtain⟨dx,e⟩:=hR5;exact⟨dx,w6 _ _ e (by simp[nr])⟩
   ·exact w6 _ _ (b5 _ _ hn4 (by simp[nnr2])) (by simp[nnr])
   ·have ex:xs.take (as++[pq]).length=xs.take as.length++[r'.take z]:=by
     have e7:xs[as.length]? =some (r'.take z):=by
      have:=congrArg (λy=>y[0]?) exs;simpa using this
     rw[length_append];exact take_snoc e7
    rw[ex];refine Paired.snoc (d8 (λq x ⟨e1,e2,e3⟩=>?_) hp4) ⟨w6 _ _ hpq (by simp[npw]),by simp[ZX,npa],npw⟩;have n1:q≠r:=λe=>by obtain⟨dx,q'⟩:=qQ;rw[e,q'] at e1;cases e1
    exact⟨w6 _ _ (b5 _ _ e1 (by simp[n1])) (by simp[e3]),e2,e3⟩
   ·have e8:kk-(as++[pq]).length=k':=by rw[length_append];simp;lia
    have e9:xs.drop (as++[pq]).length=ys:=by
     rw[length_append];have:=congrArg (List.drop 1) exs;rw[drop_drop] at this;simpa using this
    have e10:l.drop (nj+1+z)=r'.drop z:=by rw[<-drop_drop,g2]
    rw[e8,e9,e10];exact hr5
   ·intro c' o e n1;have n2:c'≠jB:=aW e f3;exact w6 _ _ (b5 _ _ (b4 _ _ e n1) n1) (by simp[n2])
   ·lia
   ·rw[Yi,hw6];show kk-((as++[pq]).map V.ref).length<kk-(as.map V.ref).length;rw[length_map,length_map,length_append];simp;lia
  ·rw[if_neg (by lia)];have hj':as.length=kk:=by lia
   rw[hj',Nat.sub_self] at hr4;obtain⟨_,et⟩:=Flat.RN hr4;rw[hj', <-hxl,take_length] at hp4;ac_rfl;refine bw (htr H4) (dU (j:=2) rfl) (aY D hr ⟨b,t,nums,jB,av,S,_,xs,as,rfl,Px,hn4,Yi,d8 (λq x h=>⟨h.1,h.2.1⟩) hp4,λz hz e=>?_,f9,λZ o t' hB' ho b' ht' no=>?_⟩)
   ·cases e0:H z with
    |none=>exact hav z hz e0
    |some o=>rw[b4 _ _ e0 (by simp;intro e1;subst e1;exact hrav hz)] at e;cases e
   ·have nbr:b≠r:=λe=>(xX hR hB).nb e.symm;have ntr:t≠r:=λe=>(xX hR hB).nt e.symm;refine q Z o t' nj hB' ?_ et.symm hnj ho (λc' o' e n1=>b' _ _ (b4 _ _ e (by simp at n1⊢;exact n1.2.2)) (by simp at n1⊢;exact⟨n1.1,n1.2.1⟩)) ?_ ?_
    ·obtain⟨dx,e⟩:=qQ;exact⟨dx,b' _ _ e (by simp[Ne.symm nbr,Ne.symm ntr])⟩
    ·rcases ht' with e|e
     ·exact .inl e
     ·refine .inr ?_;have n1:t'≠r:=λz=>by obtain⟨dx,q'⟩:=qQ;rw[z,q'] at e;cases e
      cases e0:H t' with
      |none=>rfl
      |some o'=>rw[b4 _ _ e0 (by simp[n1])] at e;cases e
    ·have n1:o≠r:=λz=>by obtain⟨dx,q'⟩:=qQ;rw[z,q'] at no;cases no
     cases e0:H o with
     |none=>rfl
     |some o'=>rw[b4 _ _ e0 (by simp[n1])] at no;cases no
 ·intro σ Z Q Q' hQ hc;obtain⟨v,hv,p',ys,e1,hs1,v2,hv2,p2,xs2,i2,v3,e3,e4,hs2,ha2,i,j,e5,e6,c',e7,q'⟩:=hc;exact⟨v,hv,p',ys,e1,hs1,v2,hv2,p2,xs2,i2,v3,e3,e4,hs2,ha2,i,j,e5,e6,c',e7,hQ _ _ q'⟩
theorem cP.XR {H:Hp}{av:List Addr}{b t:Addr}{S:State}(h:cP a H av b t S):∀M∈S.table,Vl.TF M:=by
 obtain⟨_,_,ts,_,_,_,h4⟩:=h.ex;intro M hM;obtain⟨q,hq⟩:=Paired.right h4 M hM;exact hq.tf
abbrev rW (S:State)(cs:List (List (List Int))):List Int:=PyFlat.told (PyFlat.played GridTalkNeutral.step S cs)
theorem Uv (S:State)(c:List (List Int))(cs:List (List (List Int))):rW S (c::cs)=((GridTalkNeutral.step S c).2.length:Int)::(GridTalkNeutral.step S c).2++rW (GridTalkNeutral.step S c).1 cs:=by
 show PyFlat.told ((GridTalkNeutral.step S c).2::PyFlat.played GridTalkNeutral.step (GridTalkNeutral.step S c).1 cs)=_;rw[Flat.told_cons]
inductive Ja (K:Frag)(vs:List V)(H:Hp)(Q:VK)(E:XK):Prop where
 |mk (c:Addr) (l:List Int) (cs:List (List (List Int))) (cI:vs=[.ref c]) (cJ:uT K H c (l.map V.int)) (cQ:PyFlat.calls PyXqapaa.shape l.length l=some cs) (dH:cs.length<=200) (fC:(∀x∈cs,asked1 x=true)) (gF:∀(Z:Hp) (p:Addr),Z p=some (.aB ((rW GridTalk.start cs).map V.int))->Q (.ref p) Z)
theorem ok_answers (G:aU K mg a){fd:FuncData}(F:yh K "answers" "answers" (aM 171) a.Hi fd):gJ P w K mg aq vZ 22 a.Hi fd ["calls"] (Ja K):=by
 have M_Board:=@d_Board P w K mg aq a G;have M_Reader:=@d_Reader P w K mg aq a G;refine F.ok pX (λvs H Q E h=>?_) (λy A y s H vs Q E hr h=>?_)
 ·obtain⟨c,l,cs,rfl,_⟩:=h;rfl
 obtain⟨c,l,cs,rfl,hS,hcs,h200,f9,q⟩:=h;refine⟨_,(aC (aX 1 pX.nd (pe_makeD0 M_Board)) (aC (aX 2 pX.nd (iC M_Reader (bG aK))) (aC (aX 3 pX.nd (bK dM)) (aC (qU PassesOwn.never (mY (iG (cA (Xg G) bf))) (aC (aX 4 pX.nd (aD (Uu G) (bB aR bf))) (aC (eZ (iZ plainAttrs_list PySem.F.slot_list_append PySem.F.type_list_append gK bF (bG (cF bU (by rfl) G.fX PySem.boot_len (bG cM)))))
   (ak (eZ (iZ plainAttrs_list slot_list_extend type_list_extend lG bF (bG cM)))))))
   (ak (aG bF)))))),?_⟩
 ac_rfl;refine make_bd λb t H1 nb nt s1 hB1=>?_;ac_rfl;refine make_rd λr H2 nr s2 Xh=>?_;ac_rfl;refine⟨zero_le _,λout nout=>?_⟩;have s3:aA H2 (aN H2 out (.aB [])):=aA.laid nout;have fM:aN H2 out (.aB []) out=some (.aB []):=ao;have hS3:=((hS.same s1).same s2).same s3;have hB2:=hB1.same s2;have nto:t≠out:=λz=>by obtain⟨_,_,_,_,_,e,_⟩:=hB2.ex;rw[z,nout] at e;cases e
 have hB3:=(hB2.same s3).avoid rfl [out] (by simp[nto]);have SN:iI a (aN H2 out (.aB [])) r c 0:=let ⟨dx,e⟩:=Xh;⟨dx,s3 _ _ e⟩;generalize aN H2 out (.aB [])=H3 at*;refine qW (λσ Z=>∃(v:Option V) (t:Addr) (S:State) (n f:Nat) (cs':List (List (List Int))) (acc:List Int),σ=[some (.ref c),some (.ref b),some (.ref r),some (.ref out),v]/\cP a Z [out] b t S/\iI a Z r c n/\uT K Z c (l.map V.int)/\PyFlat.calls PyXqapaa.shape f (l.drop n)=some cs'/\
   (∀x∈cs',x∈cs)/\Z out=some (.aB (acc.map V.int))/\acc++rW S cs'=rW GridTalk.start cs/\acc.length+301*cs'.length<=60200)
  (λσ Z=>match Z r with|some (.ins _ _ fs)=>(match fs.lookup ("place":Str) with|some (.int z)=>l.length-z.toNat|_=>0)|_=>0)
  ⟨none,t,GridTalk.start,0,l.length,cs,[],rfl,hB3,SN,hS3,by rw[List.drop_zero];exact hcs,λx hx=>hx,fM,rfl,by simp;lia⟩ ?_ ?_
 ·rintro σ H4 ⟨v,t4,S,n,f,cs',acc,rfl,Px,qQ,hS4,hc4,hsub,dR,hacc,hlen⟩;simp_arith! [ZV qQ (show(Str.ofString "is_through")≠"calls" by decide+kernel) (show(Str.ofString "is_through")≠"place" by decide+kernel)];refine⟨r,c,n,_,rfl,qQ,hS4.sql,_,rfl,?_⟩;rw[length_map];by_cases hn:l.length<=n
  ·rw[decide_eq_true hn];rw[if_neg (by decide)];ac_rfl;have e0:l.drop n=[]:=List.drop_eq_nil_of_le hn;rw[e0] at hc4;have ec:cs'=[]:=by
    cases f<;>(rw[PyFlat.calls] at hc4;injection hc4 with hc4;exact hc4.symm)
   subst ec;have e1:acc=rW GridTalk.start cs:=by rw[<-hacc];show acc=acc++[];rw[append_nil]
   rw[e1] at dR;exact q H4 out dR
  ·rw[decide_eq_false hn];rw[if_pos (by decide)];obtain⟨p,rest,hd⟩:∃p rest,l.drop n=p::rest:=by
    cases e:l.drop n with
    |nil=>have:=congrArg length e;rw[length_drop] at this;simp at this;lia
    |cons p rest=>exact⟨p,rest,rfl⟩
   rw[hd] at hc4;obtain⟨f',nn,kk,xs,tt,cs'',rfl,hsh,hnn,Pu,hcs'',rfl⟩:=Flat.first hc4
   have hin:=hsub _ mem_cons_self;have ha1:=f9 _ hin;have hav:∀z∈[out],H4 z≠none:=λz hz e=>by simp at hz;subst hz;rw[dR] at e;cases e
   have nro:r∉[out]:=by
    simp;intro e;obtain⟨dx,q'⟩:=qQ;rw[e,dR] at q';cases q'
   ac_rfl;refine⟨b,t4,r,c,[out],S,l,n,p,rest,nn,kk,xs,tt,rfl,Px,qQ,hS4,hav,nro,hd,hsh,hnn,Pu,ha1,λH5 o t5 n5 hB5 hR5 hd5 hn5 Es b5 ht5 no=>?_⟩;have la:=Len.ans_len Px.ar Px.XR (DX hsh) ha1;rw[Uv] at hacc;generalize GridTalkNeutral.step S ((p::rest.take nn)::xs)=SA at*;have nbo:out≠b:=λe=>by obtain⟨_,_,_,q',_⟩:=Px.ex;rw[<-e,dR] at q';cases q'
   have nto4:out≠t4:=λe=>Px.nav (by simp[e]);have ho6:=b5 _ _ dR (by simp at nro;simp[nbo,nto4,Ne.symm nro]);have hS5:uT K H5 c (l.map V.int):=hS4.but b5 (λz hz o u e=>by
    simp at hz;rcases hz with rfl|rfl|rfl
    ·obtain⟨_,_,_,q',_⟩:=Px.ex;rw[q'] at e;cases e
    ·obtain⟨_,_,_,_,_,q',_⟩:=Px.ex;rw[q'] at e;cases e
    ·obtain⟨_,q'⟩:=qQ;rw[q'] at e;cases e)
   simp_arith! [Ge];have noo:o≠out:=λe=>by rw[e,dR] at no;cases no
   have big:60200+1<=sizeLine:=by decide
   rw[length_cons] at hlen;refine⟨.inl ⟨rfl,_,aF.of ho6⟩,o,_,rfl,.inl (aF.of Es),out,_,_,rfl,rfl,ho6,by rw[length_map];lia,?_⟩;rw[length_map];have w7:But [out] H5 (aN H5 out (.aB (acc.map V.int++[.int (SA.2.length:Nat)]))):=But.wrote;have Tn:aN H5 out (.aB (acc.map V.int++[.int (SA.2.length:Nat)])) out=some (.aB ((acc++[(SA.2.length:Int)]).map V.int)):=by rw[ao,map_append];rfl
   generalize aN H5 out (.aB (acc.map V.int++[.int (SA.2.length:Nat)]))=H7 at*;have ho8:=w7 _ _ Es (by simp[noo]);refine⟨.inl ⟨rfl,_,aF.of Tn⟩,out,o,_,_,rfl,rfl,Tn,ho8,by rw[length_map,length_map,length_append];simp;lia,?_⟩;rw[<-map_append];have w9:But [out] H7 (aN H7 out (.aB ((acc++[(SA.2.length:Int)]++SA.2).map V.int))):=But.wrote;have ho9:aN H7 out (.aB ((acc++[(SA.2.length:Int)]++SA.2).map V.int)) out=some (.aB ((acc++[(SA.2.length:Int)]++SA.2).map V.int)):=ao;generalize aN H7 out (.aB ((acc++[(SA.2.length:Int)]++SA.2).map V.int))=H9 at*;have w:But [out] H5 H9:=w7.trans w9;have ap:∀z∈[out],Apart a H5 [out] b t5 z:=λz hz=>by
    have hz':z=out:=by simpa using hz
    subst hz';refine⟨nbo,λe=>hB5.nav (by simp[e]),.inl hz,λh c e2 ⟨d,e⟩=>?_,λk m ⟨dx,e⟩=>?_⟩
    ·rw[ho6] at e;cases e
    ·rw[ho6] at e;cases e
   have nro':r≠out:=by simpa using nro
   obtain⟨dr,hR5⟩:=hR5;have hR9:=w _ _ hR5 (by simp[nro']);refine⟨⟨_,t5,SA.1,n5,f',cs'',acc++[(SA.2.length:Int)]++SA.2,rfl,hB5.but w ap,⟨dr,hR9⟩,hS5.but w (λz hz o u e=>by simp at hz;subst hz;rw[ho6] at e;cases e),by rw[hd5];exact hcs'',λx hx=>hsub x (mem_cons_of_mem _ hx),ho9,?_,?_⟩,?_⟩
   ·rw[<-hacc];simp
   ·rw[length_append,length_append];simp;lia
   ·obtain⟨d4,qQ⟩:=qQ;rw[hR9,qQ]
    show(match (lO c n5).lookup ("place":Str) with|some (.int z)=>l.length-z.toNat|_=>0)<(match (lO c n).lookup ("place":Str) with|some (.int z)=>l.length-z.toNat|_=>0)
    rw[uf,uf];show l.length-(n5:Int).toNat<l.length-(n:Int).toNat;lia
 ·intro σ Z Q Q' hQ hc;obtain⟨v,hv,a1,dx,fs,e1,h1,h2,r',c',n,xs,e3,h4,h5,b',e6,q'⟩:=hc;exact⟨v,hv,a1,dx,fs,e1,h1,h2,r',c',n,xs,e3,h4,h5,b',e6,hQ _ _ q'⟩
theorem start_ok {K:Frag}{H:Hp}{c:Addr}{l:List Int}{Q:VK}{E:XK}(hO:Jk H)(hs:aF K H c (l.map V.int))(h:PyXqapaa.answers_asked l=true)
  (q:∀(Z:Hp) (p:Addr),Z p=some (.aB ((PyXqapaa.answers l).map V.int))->Q (.ref p) Z):Ja K [.ref c] H Q E:=by
 have hF:uT K H c (l.map V.int):=by
  rcases hs with(h|⟨o,h⟩)|h
  ·rcases hO c with e|⟨o,u,e⟩
   ·rw[e] at h;cases h
   ·rw[e] at h;cases h
  ·exact .inl ⟨o,h⟩
  ·exact .inr h
 unfold PyXqapaa.answers_asked at h;unfold PyXqapaa.answers at q;rw[Flat.calls_eq] at h q;cases e:PyFlat.calls PyXqapaa.shape l.length l with
 |none=>rw[e] at h;cases h
 |some cs=>
  simp only[e] at h q;rw[and_eq_true] at h;obtain⟨h1,h2⟩:=h;unfold PyFlat.atMost at h1;unfold GridTalkNeutral.asked at h2;rw[and_eq_true,and_eq_true,all_eq_true] at h2;exact⟨c,l,cs,rfl,hF,e,of_decide_eq_true h1,h2.2.2,q⟩
end GT
open PySem PySem.W PyProof.Rows
namespace HD
variable (w:World)(os:OsState)
abbrev R:=PySem.Challenge.rw_gridtalk_s01_answers
abbrev pw:Program:=PySem.Challenge.pw_gridtalk_s01_answers
abbrev an:Option Value:=some (.ref 6)
abbrev z4:Pos:=⟨0,0,0,0⟩
noncomputable abbrev Sb (w:World) (os:OsState):Shared:=(⟨topA.tree_4 w.params,15,{},⟨[]⟩,{},187,os⟩:SharedT).abs
noncomputable abbrev HF (P:Params):Heap:=absHeap (topA.tree_1090 P) 1037 {}
noncomputable abbrev Sk (w:World) (os:OsState):Shared:=⟨HF w.params,⟨[]⟩,{},1762,os⟩
abbrev bE:List Stmt:=behindTheImports pw
noncomputable abbrev cE:Code:=.body bE topA.env_1
theorem Za0:topGo treeTable pw w 11 an 12 ⟨boot_heap w.params,⟨[]⟩,boot_drawn,boot_toks,os⟩ (topStub pw)=some (Sb w os,⟨denote treeTable cE,cE,z4,[topFrame z4]⟩):=by kernel_rfl
theorem Za1:segRun treeTable pw w 11 an 1 1 (Sb w os) (blockOf bE topA.env_1 cE z4 [topFrame z4])=some (.next,Sb w os,cE,z4):=by kernel_rfl
theorem Za2:topRun treeTable pw w 11 an 2 (Sk w os) (restOf [] topA.env_1 cE ⟨575,0,583,19⟩ [topFrame z4])=some (Sk w os):=by kernel_rfl
theorem Za3:topRun treeTable pw w 11 an 6686 ⟨boot_heap w.params,⟨[]⟩,boot_drawn,boot_toks,os⟩ (topStub pw)=some (Sk w os):=
 go_top (n:=12) (Za0 w os) (piece_block (n:=1) (Za1 w os) (topA.chain pw bE w os [] 2 _ (Za2 w os)))
theorem Za4:((boot_heap w.params).isNs mainGlobals&&(⟨[]⟩:Array GenState).size == 0,(boot_heap w.params).objs.size,(boot_heap w.params).nsMap mainGlobals "__annotations__")=(true,11,an):=by kernel_rfl
theorem Za5:∀w:World,(fencedOpening treeTable pw w 13428).map (λs=>(s.heap,s.gens,s.drawn,s.toks))=some (boot_heap w.params,Array.mk [],boot_drawn,boot_toks):=boot_open (by kernel_rfl) rfl (λs=>by kernel_rfl)
abbrev Q:Program:=view pw [171]
abbrev L:List Str:=pw.main.scope.names.map (·.1)
abbrev Ms:List Str:=importedModules pw.main.body
theorem Za6:(staticsOk Ms (boot_heap w.params) (HF w.params)&&namesBound pw (HF w.params)&&gensDone (Sk w os)&&laidKept (boot_heap w.params) (HF w.params))=true:=by kernel_rfl
theorem Za7:seen ((recsOf Q).map (·.name)) (ownsOf Q) [] {Sk w os with gens:= #[]}=expectedOf Q:=by kernel_rfl
theorem Za8:(HF w.params).bltView=bltViewBooted:=by kernel_rfl
theorem Za9:(HF w.params).keysOk (looseW Q L) ((recsOf Q).map (·.name)) ((litsOf Q).map (·.1)) ((clssOf Q (looseW Q L)).map (·.name))=true:=by kernel_rfl
theorem Zb0:((HF w.params).accountedOkI Ms&&(HF w.params).isNs mainGlobals&&(HF w.params).isNs builtinsNs&&tablesOk Q (HF w.params))=true:=by kernel_rfl
theorem Zb1:(xlAt Q [] (Sk w os)&&recOk [] (Sk w os))=true:=by kernel_rfl
theorem Zb2:tabsOk Q (Sk w os)=true:=by kernel_rfl
theorem Zb3:pinSeenD Q (drecsOf Q) (Sk w os)=pinGoodD (drecsOf Q):=by kernel_rfl
theorem Zb4:plainSeenE Q (looseW Q L) (Sk w os)=plainGoodE Q (looseW Q L):=by kernel_rfl
theorem Zb5:plainSeenD Q L (Sk w os)=plainGoodD Q L:=by kernel_rfl
theorem Zb6:wideSeen Q (Sk w os)=wideGood Q:=by kernel_rfl
theorem Zb7:clsSeenW Q L (Sk w os)=clsGoodW Q L:=by kernel_rfl
theorem Zb8:openSeen Q L Ms (λs=>xlAt Q [] s&&recOk [] s) true (Sk w os)=openGood Q L:=
 looks_pair (Za7 w os) (looks_pair (Za8 w) (looks_pair (by
  rw[Za9 w];have h:=Zb0 w;simp only[and_eq_true] at h;obtain⟨⟨⟨h1,h2⟩,h3⟩,h4⟩:=h;rw[h1,h2,h3,h4];have:=Zb1 w os;simp only[this];rfl) (looks_pair (Zb2 w os) (looks_pair (Zb3 w os) (looks_pair (Zb4 w os) (looks_pair (Zb5 w os) (looks_pair (Zb6 w os) (Zb7 w os))))))))
def Zb9 (t:BT)(n a:Nat):Option Obj:=match (match Nat.blt a n with|true=>some ((t.get a).getD default)|false=>none) with
 |some ⟨_,_,.freed,_⟩=>none
 |o=>o
theorem Zc0 (t:BT)(n:Nat)(life:Life):(absHeap t n life).get? =Zb9 t n:=by
 funext a;unfold Heap.get? Zb9;rw[absHeap_at];by_cases h:a<n
 ·rw[if_pos h,Nat.blt_eq.mpr h];rfl
 ·rw[if_neg h,Bool.eq_false_iff.mpr λq=>h (Nat.blt_eq.mp q)]
theorem left {K:Params->Frag}{as:List Addr}{e:∀P,as=(K P).map (·.1)}(O:∀w:World,as.map (Zb9 (topA.tree_1090 w.params) 1037)=(K w.params).map λp=>some p.2):
  LeftO pw Q L (λs=>xlAt Q [] s&&recOk [] s) (Hook.obs (kHook K as e)) (Hook.val (kHook K as e)) 13428:=
 LeftO.of_pieces Za5 Za4 Za3 (by decide) λw=>funext λos=>looks_pair (Za6 w os) (looks_pair (Zb8 w os) ((congrArg (as.map ·) (Zc0 _ _ _)).trans (O w)))
theorem Zc1:(sreFenced pw.main&&((moduleNames pw.main.body).isEmpty||lookedIntoSs (moduleNames pw.main.body) pw.main.body))=true:=by decide+kernel
theorem Zc2:namesResolve pw=true:=by decide+kernel
theorem Zc3:pw.boundNames.all (λn=> !worldNames.contains n)=true:=by decide+kernel
theorem Zc4:noRoadLSs {strict:= !(importedModules pw.main.body).all cThrough.contains,foot:=none,bare:=(["vars","dir","locals"]:List Str).filter (readsOut pw pw.main.body)} pw.main.body=true:=by decide+kernel
theorem Zc5:namesMeet pw pw.main.body (λz n=>attrL n)=true:=by decide+kernel
theorem Zc6:looksOpen pw=true:=by
 unfold looksOpen;rw[Zc1,Zc2,Zc3,Zc4,Zc5];rfl
theorem Zc7:(pw.boundNames.contains "answers"&& !startupNames.contains "answers"&&specDef pw "answers" 1)=true:=by decide+kernel
theorem Zc8:(R.args.all Codec.fits&&R.ret.ok)=true:=by decide+kernel
theorem ws:R.wellSaid=true:=by
 have h2:=Zc7;have h3:=Zc8;simp only[and_eq_true] at h2 h3;show(looksOpen pw&&_&&_&&_&&_&&_)=true;simp only[and_eq_true];exact⟨⟨⟨⟨⟨Zc6,h2.1.1⟩,h2.1.2⟩,h2.2⟩,h3.1⟩,h3.2⟩
end HD
open PySem PySem.W PyProof.Rows
local macro_rules| `(tactic|o_headS $H)=> `(tactic|refine PySem.W.holds_os (q:=HD.Q) (loose:=HD.L) (Xt:=λs=>xlAt HD.Q [] s&&recOk [] s) (XP:=XL HD.Q []) (Yf:=Hook.obs $H) (Ya:=Hook.val $H) (YP:=Hook.says $H) (N:=13428) (HD.left (by as_aux_lemma=>exact λz=>by kernel_rfl)) (Hook.of $H) (Hook.keeps $H) (λs e=>xl_of s (Bool.and_eq_true_iff.mp e).1) XL.keeps (by rfl) (by rfl) (by rfl) (λs e=>recFacts_of (Bool.and_eq_true_iff.mp e).2) os_shapes HD.ws (by decide+kernel) ⟨rfl,rfl,rfl,rfl,rfl,by decide+kernel⟩ ⟨[.list [.int 2]],by decide+kernel,by decide+kernel⟩ ?hc)
theorem GT.use {K:Frag}{h:Heap}{mg:Str->Option Value}{goal:Prop}(_:K.In h)(_:h.Ns mainGlobals mg)(g:∃a,GT.aU K mg a)(next:∀a,GT.aU K mg a->goal):goal:=let ⟨a,z⟩:=g;next a z
local macro_rules| `(tactic|walk_at "bb")=> `(tactic|first|exact L2.bt1 (by intros;rfl)|exact L2.bt2 (by intros;rfl)|exact L2.bt3 (by intros;rfl)|exact L2.bt4 (by intros;rfl)|exact L2.bt5 (by intros;rfl)|exact L2.bt0 (by intros;rfl))
local macro_rules| `(tactic|walk_at "kd")=> `(tactic|(refine' L2.kd_of ?l ?s ?p ?n;(case l=>k_is);(case s=>rfl);(case p=>repeat' (first|exact L2.RT.nil|refine' L2.RT.cons ?_ ?_ ?_|exact rfl));(case n=>simp)))
local macro_rules| `(tactic|walk_at "tu")=> `(tactic|(refine' L2.tup_of ?l ?v ?z;(case l=>k_is);(case v=>repeat' (first|exact L2.vnil|refine' L2.vcons ?_ ?_|exact rfl|exact⟨_,rfl⟩));(case z=>simp)))
local macro_rules| `(tactic|walk_at "cl")=> `(tactic|(dsimp only;refine'⟨?a,?b,?c,?d⟩;(case a=>k_is);(case b=>k_is);(case c=>k_is);(case d=>k_is)))
local macro_rules| `(tactic|walk_at "no")=> `(tactic|(dsimp only;show findIn _ _ _=_;k_is))
local macro_rules| `(tactic|walk_at "in")=> `(tactic|(dsimp only;refine' L2.mk_in (by with_reducible assumption) (by with_reducible assumption) ?g ?a ?l ?c ?k ?i ?m ?d ?b;(case g=>k_is);(case a=>k_is);(case l=>k_is);(case c=>k_is);(case k=>k_is);(case i=>k_is);(case m=>k_is);(case d=>k_is);(case b=>walk_at "bb")))
local macro_rules| `(tactic|walk_at "mt")=> `(tactic|(dsimp only;refine' L2.mk_mt ?a ?l ?c ?k ?i ?b;(case a=>k_is);(case l=>k_is);(case c=>k_is);(case k=>k_is);(case i=>k_is);(case b=>walk_at "bb")))
local macro_rules| `(tactic|exists $e)=> `(tactic|(dsimp only;refine' $e (by with_reducible assumption) (by with_reducible assumption) ?a ?l ?c ?k ?b;(case a=>k_is);(case l=>k_is);(case c=>k_is);(case k=>k_is);(case b=>walk_at "bb")))
local macro_rules| `(tactic|exists $e,$_)=> `(tactic|(refine' $e (by with_reducible assumption) (by with_reducible assumption) ?a;(case a=>k_is)))
theorem PySem.Challenge.cw_gridtalk_s01_answers_holds : PySem.Challenge.rw_gridtalk_s01_answers.Holds := by
 w_on;k_headS
 k_fillS
 refine L2.walk_specK (k:=22) (CX:=L2.vZ) (ps:=["calls"]) (sp:=GT.Ja) HD.ws rfl rfl ⟨rfl,by decide,by decide⟩ (λw h Y=>PySem.W.kIn_of Y) ?F ?S (λy y y y z=>z)
 case F=>
  intro w mg fa h Y KX G hmg;refine' GT.use KX G ⟨GT.Ad.mk ..,?GG⟩ ?nx
  case GG=>
   constructor
   iterate 33 exists L2.mk_int,a
   iterate 10 exists PySem.W.mg_none_of,a
   exists mg_of,a;walk_at "kd";exists mg_of,a;walk_at "kd";exists mg_of,a;walk_at "kd";exists mg_of,a
   iterate 30 walk_at "tu"
   exists mg_of,a;walk_at "tu";exists mg_of,a;walk_at "tu";exists mg_of,a;walk_at "tu";exists mg_of,a;walk_at "tu";exists mg_of,a;walk_at "tu";exists mg_of,a;walk_at "tu";exists mg_of,a;walk_at "cl"
   iterate 2 walk_at "no"
   exists mg_of,a;walk_at "cl"
   iterate 3 walk_at "no"
   exists mg_of,a;walk_at "cl"
   iterate 4 walk_at "no"
   exists mg_of,a;walk_at "cl"
   iterate 6 walk_at "no"
   exists mg_of,a;walk_at "cl"
   iterate 2 walk_at "no"
   exists mg_of,a;walk_at "cl"
   iterate 2 walk_at "no"
   iterate 5 exists L2.JB
   walk_at "in"
   iterate 29 exists L2.JB
   walk_at "in"
   iterate 54 exists L2.JB
   walk_at "in";exists L2.Og
   iterate 5 exists L2.JB
   walk_at "in"
   iterate 8 walk_at "mt"
   iterate 2 walk_at "in"
   iterate 4 walk_at "mt"
   exists L2.JB;exists L2.Og
   iterate 19 exists L2.JB
  case nx=>
  intro a GG;have e:=hmg.symm.trans GG.Ow.v8;cases e;obtain⟨fd,F,b⟩:=GG.Ow.ex;exact⟨fd,b,λaq y y=>GT.ok_answers GG F⟩
 case S=>
  intro K H xs a hO hwi f9 hx;cases hx with
  |cons h1 h2=>
   cases h2;cases h1 with
   |aB hs ha=>
    have e:=L2.Zf a.1 _ ha;subst e;have q:((Codec.inLen 0 16000 a.1&&a.1.all (Codec.inInt 0 18446744073709551615))&&true)=true:=hwi;have qa:PyXqapaa.answers_asked a.1=true:=f9;exact GT.start_ok hO hs qa λZ p hp=>.aB (L2.aF.of hp) (L2.Ze _)
