import PyProof.Rows.All
import Wide.All
import OpenK.AllK
import Wide.FinOn
import PyProof.EqAt
import PyProof.EqKinds
import PyProof.TupleCall
import KE.BitLaws
import PyProof.Rows.FStr
import KE.KRevIter
import PyProof.CollectIter
import PyProof.EnumMake
import PySem.Builtin.Int.W1All
import PyProof.StrBlock
import KE.IntTextLaws
import Open.SpecLaws
import KE.OsHead
import KE.OsGo
import PySem.Challenge.RW_payingpromises_s01_answers
set_option Elab.async false
set_option linter.all false
set_option compiler.extract_closed false
set_option maxRecDepth 100000
set_option maxHeartbeats 4000000
structure PySem.W.Fast:Prop where
(tw10087738123828213101 tw6129196822444209743 tw12436318265763216799 tw14446797330308396736 tw10887386965463818771 tw6497277416509808442 tw13682684797219736048 tw5564843850032518097 tw11291787398443982128 tw15842642983127258144 tw9318934016850683985 tw11516429496413652851 tw13226101389790413117 tw14861202350356448489 tw7482954960901460302 tw17170440227195230991 tw368014484902991337 tw13702129087917981259 tw1091298192473561054 tw12479608303935843739 tw11260847361055242584 tw4129269920055929614 tw17837522398607736126 tw4811805473672410173 tw6770094750104411286 tw17716830903935082596 tw44613402284374970 tw9298604106856703113 tw8906100769129019352 tw8724182281679749566 tw11926320591225299316 tw9170270511266778695 tw12808508054953284515 tw11426812745323319694 tw2335604241811242002 tw14022821087656414286 tw15005491417583223769 tw9103119736632835512 tw1740464432867094406 tw16042333882581364341 tw14167076988615551759 tw8433374714545459747 tw18032809959486372843 tw18261466983258341533 tw14639644209574818250 tw10657041639375027332 tw18406305662108191789 tw8149244436913411761 tw3214511969885948946 tw3977962774481993199 tw5136152646583842851 tw11317486734636383256 tw7187027024376474516 tw2329655195865178289 tw11624147721488416872 tw9808228619192194316 tw4736774935140787259 tw5770685068189872304 tw752632692308840552 tw12108166629486643021 tw1696596101147108768 tw988576059274722863 tw15574104934393109448 tw11451339652161411772 tw16467301258193409744 tw8721748081661159284 tw9341813356432056173 tw18025138656729843015 tw9084704951796596270 tw17165906876692925838 tw5923592097094131302 tw18172550282564307185 tw4547474423506373957 tw285859735266228283 tw8656836240607691768 tw9494300851635483058 tw8769944101610528450 tw10073395969406746432 tw875465034042123561 tw13382951629480396566 tw12181945466807931717 tw9133522021163094227 tw11131538200697861634 tw8309475303167404310 tw17196544210077600305 tw12292879499990799947 tw498624286050029184 tw5110086035052071369 tw2705204629270929351 tw18232005152334416935 tw17887892495344807426 tw4879567835195032202 tw8481977554271513153 tw6887348626804422923 tw15232061299811267246 tw12899685748553684374 tw15781708576242389581 tw8491458127268782701 tw14964418996224041877 tw6978185805866748305 tw17948277442479312363 tw3855028114832554862 tw7781327099138493303 tw1080381205524772924 tw12727882757206235213 tw673674398348285 tw9599559743994254519 tw11300993525080589655 tw11205249617710436841 tw11032726077327145306 tw14785335728418327094 tw5663514522429817793 tw13422841872400707622 tw15643760372026461825 tw17835849561725935647 tw2074767939950772756 tw3437242517903487534 tw5425868181836643868 tw1385124782036891756 tw7430137303519369401 tw3269841787335663993 tw8984964911491368263 tw16983254453092743657 tw7688283760197647157 tw9673241829054191810 tw9467984454854126313 tw16913690420522345858 tw7155978981745473299 tw16640134124428716525 tw11787077313761819702 tw5597757606823130902 tw7857955860567275017 tw186838322197666137 tw16086928702172095112 tw2056326847561008228 tw13688654720732980853 tw2325327271581415636 tw7553683038474338357 tw2493891023037928245 tw9843481327482508086 tw6905526438288199808 tw14359517951566992417 tw3658666323874240131 tw14983626847506735156 tw11610661110811690385 tw17072487940110826626 tw14940825925262701667 tw12574883206860634079 tw15067695698550243539 tw16735903831777738836 tw700721961338505553 tw10621291824973526938 tw5022396647152055226 tw13851864095353092085 tw15560877150502043123 tw10263738717416890532 tw3025260318066178274 tw11858943570752716644 tw5379205413217366725 tw15193322916489332214 tw9912849722274476896 tw16169531711607320612 tw10613571687944601830 tw11875442628792593011 tw3800968469777543282 tw5661157142895676458 tw14695381694100574621 tw7740745018802552490 tw4099444657079296201 tw439864142457811105 tw12191812035103761198 tw15895871382115299023 tw2734092362187783633 tw17717707583150254930 tw10997304438356777936 tw5093973889806398360 tw7964716000828951078 tw3392683587150580908 tw8332902320730544884 tw12679339685794028741 tw7193256531830211631 tw7218279947337602175 tw2633165721605009835 tw13169549174269393990 tw13996161231377420220 tw44006430850041653 tw468681570275739528 tw12200839021857390491 tw14000545795676414886 tw12765247557052751931 tw1365700771197187857 tw8717788632626069602 tw1274390225168192676 tw1324233864873083794 tw42238760548502042 tw3608477963488435190 tw15572684971890575046 tw714447457865605684 tw14981282974982334297 tw16836675034223784989 tw2636639559512603979 tw926933150016285718 tw16447236056762508720 tw13868185983654710590 tw289047016519196713 tw281873261250332489 tw532613840546757129 tw13149773416957752479 tw3715690726505299987 tw13810816472084936340 tw5249674029120607377 tw12192552236768978342 tw18337409237640616358 tw2620115627154768884 tw15686350107144080400 tw1675462036549151263 tw5281850027343471143 tw12593391798136835949 tw1932636826800385711 tw1843483428724380530 tw13826535088636992866 tw7914657042363736854 tw16774157512044896616 tw5291283878657247699 tw5671097412913649383 tw3038365547638051637 tw807148026401846271 tw10789407778307911609 tw13228362098685327030 tw12291137867362306985 tw3669700343042322746 tw9365690682207807728 tw17421516074111062553 tw14253365753640348746 tw3402837230114951656 tw12378341108154211423 tw6922370921223784047 tw7294603164609871129:True)
section
theorem PP.ws:PySem.Challenge.rw_payingpromises_s01_answers.wellSaid=true:=by decide+kernel
open PySem PySem.W PyProof.Rows
def PP.WK (K:Params->Frag):Prop:=∀(q:Program)(l:List Str)(X:(Str->Option Value)->Heap->Prop)(Y:World->Heap->Prop)(d:DefRec),d.params.defaults=[]->d.name="answers"->(∀w h,Y w h->(K w.params).In h)->WalkOS q l X Y PySem.Challenge.rw_payingpromises_s01_answers d [] (fun f vs=>PySem.call f vs)
theorem PP.use {K:Params->Frag}{T R:Prop}(m:T->R)(h:PP.WK K->T):PP.WK K->R:=fun w=>m (h w)
theorem PP.use2 {T R:Prop}(c:T)(m:T->R):R:=m c
set_option maxHeartbeats 0 in
noncomputable def PP.hd:(K:Params->Frag)×'(PP.WK K->PySem.Challenge.rw_payingpromises_s01_answers.Holds):=by
  apply PSigma.mk
  apply PP.use
  · intro t
    refine' PP.use2 ?hc ?m2;rotate_left
    exact t
    intro x
    have hws:=PP.ws
    w_on;k_headS;(case hw=>exact⟨[.list [.int 0,.int 2]],by decide+kernel,by decide+kernel⟩)
  · exact fun H=>H _ _ _ _ _ rfl rfl (fun w h Y=>kIn_of Y)
end
noncomputable section
set_option genSizeOf false
set_option tactic.hygienic false
def Xr (h:True:=by rfl):=h
def Xd (h:True:=by decide):=h
def Xk (h:True:=by k_is):=h
set_option hygiene false
local macro_rules
 |`(tactic|delta $a*)=>let x:=a[0]!;let e:=a[1]!;let r:=a[2:].toArray;`(tactic|((revert $e;first|refine @$x _ _ ?_|refine @$x _ _ _ ?_);intro $r* h))
local macro_rules
 |`(tactic|obtain $p:rcasesPat)=>`(tactic|(rintro H _ Q E $p:rcasesPat;refine⟨rfl,?_⟩))
local macro_rules
 |`(tactic|nomatch $[$t],*)=>`(tactic|(intro W I;repeat first|trivial|refine And.intro (by first $[|exact I.cal $t]* $[|exact I.kls $t]* $[|exact $t]*) ?_))
local macro_rules
 |`(tactic|dsimp [$a,*] $[$l]?)=>`(tactic|simp only [$a,*] $[$l]?)
local macro_rules
 |`(⇑$t)=>`(autoParam $t Xr._auto_1)
local macro_rules
 |`(~~~$t)=>`(autoParam $t Xd._auto_1)
local macro_rules
 |`(↥$t)=>`(autoParam $t Xk._auto_1)
section
open PySem PySem.Spec PyProof.Rows
abbrev Fg:=PySem.W.Frag
abbrev MG:=Str->Option Value
abbrev Nh:=Addr
abbrev Ni:=Shared
abbrev Nj:=Value
abbrev Nk:=Program
def Ga:= @Bool.and_eq_true
def Gb:= @decide_eq_true_eq
def Gc:= @wpAny_bind
def Gd:= @if_neg
def Ge:= @List.length_cons
def Gf:= @if_pos
def Gg:= @List.length_append
def Gh:= @List.mem_cons_of_mem
def Gi:= @Nat.le_refl
def Gj:= @Heap.get?_push_of_some
def Gk:= @List.mem_cons
def Gm:= @List.map_cons
def Gn:= @absurd
def Go:= @List.size_toArray
def Gp:= @List.mem_append
def Gq:= @List.mem_singleton
def Gr:= @List.length_nil
def Gs:= @Bool.false_ne_true
def Gu:= @Heap.lt_size
def Gv:= @Nat.lt_of_lt_of_le
def Gw:= @List.mem_of_getElem?
def Gx:= @wpAny_pure
def Gy:= @Option.some.injEq
def Gz:= @List.length_map
def Ha:= @List.getElem?_map
def Hb:= @Heap.get?_push_size
def Hc:= @Nat.le_trans
def He:= @List.getElem?_eq_none
def Hf:= @Option.some.inj
def Hg:= @Option.map_some
def Hh:= @Option.map_eq_some_iff
def Hi:= @List.mem_cons_self
def Hj:= @PySem.mem_of_lookup
def Hk:= @decide_eq_false
def Hl:= @List.getElem?_eq_some_iff
def Hm:= @congrArg
def Hn:= @Nat.ne_of_lt
def Ho:= @List.take_length
def Hq:= @List.append_assoc
def Hr:= @Nat.lt_of_le_of_lt
def Hs:= @Heap.size_push
def Ht:= @Bool.or_eq_true
def Hu:= @Nat.pow_le_pow_right
def Hv:= @decide_eq_true
def Hw:= @List.append_nil
def Hx:= @Prod.mk.injEq
def Hy:= @List.mem_append_right
def Hz:= @List.take_succ
def Ia:= @Nat.le_of_not_lt
def Ib:= @List.filterMap_cons
def Ic:= @List.flatMap_cons
def Ie:= @Nat.lt_irrefl
def Ig:= @List.any_cons
def Ih:= @List.all_cons
def Ii:= @Ne.symm
def Ij:= @List.map_nil
def Ik:= @False.elim
def Il:= @Nat.zero_le
def Im:= @Bool.eq_iff_iff
def Ip:= @List.mem_map
def Iq:= @List.nil_append
def Ir:= @List.map_congr_left
def Iu:= @List.map_map
def Iv:= @List.length_take
def Iw:= @List.all_eq_true
def Ix:= @List.map_append
def Iy:= @List.reverse_cons
def Iz:= @List.lookup_cons
def Ja:= @List.pairwise_cons
def Jb:= @Bool.false_eq_true
def Jc:= @List.nodup_cons
def Jd:= @List.dropLast_concat_getLast
def Je:= @Int.toNat_natCast
def Jf:= @Option.bind_some
def Jg:= @propext
def Jh:= @List.find?_cons
def Ji:= @Nat.pow_succ
def Jj:= @Nat.ne_of_gt
def Jk:= @Nat.lt_trans
def Jl:= @Nat.lt_succ_of_lt
def Jm:= @List.take_of_length_le
def Jn:= @List.drop_of_length_le
def Jo:= @Bool.not_eq_true'
def Jp:= @List.take_append_drop
def Jq:= @Nat.lt_succ_self
def Jr:= @List.cons_append
def Js:= @List.eq_nil_of_length_eq_zero
def Jt:= @Nat.min_eq_left
def Ju:= @List.toList_toArray
def Jv:= @List.reverse_append
def Jw:= @Array.length_toList
def Jx:= @List.filter_append
def Jy:= @List.mem_of_find?_eq_some
def Jz:= @List.drop_eq_getElem_cons
def Ka:= @Nat.le_of_succ_le
def Kb:= @List.foldl_append
def Kc:= @Option.isSome_iff_exists
def Kd:= @Bool.true_and
def Ke:= @Nat.add_sub_cancel_left
def Kf:= @List.reverse_nil
def Kg:= @Nat.le_of_lt
def Kh:= @Nat.le_of_eq
def Ki:= @List.getElem?_set_self
def Kj:= @Heap.get?_update_other
def Kk:= @Array.getElem?_eq_none
def Kl:= @List.mem_filter
def Km:= @List.length_singleton
def Kn:= @List.length_filter_le
def Ko:= @Heap.get?_update_self
def Kq:= @Array.getElem?_toList
end
open Kcp0 renaming str->Kr,text->Ks,step->Kt,size->Ku,natText->Kv,tidy->Kw,expText->Kx,bits->Ky,intText->Kz,condText->La,tidyE->Lb,isDigit->Lc,swap->Ld,digits->Le,word->Lf,eat->Lg,tidyB->Lh,con?->Li,nats->Lj,got->Lk,made->Ll,folded->Lm,condSeen->Ln,exp?->Lo,evalB->Lp,flow->Lq,expSeen->Lr,tooBig->Lu,plain->Lv,read->Lw,evalE->Lx,goesIf->Ly,then_->Lz,insert->Ma,work->Mb,nat?->Mc,int?->Md,look->Me,cond?->Mf,goes->Mg,add->Mh,shelve->Mi,needs->Mj,keep->Ml,isOr->Mm,without->Mn,conSeen->Mo,last->Mp,day?->Mq,pair->Mr,single->Ms,triple->Mu,sizes->Mv,settle->Mw,morrow->Mx,small->My,waits->Mz,fresh->Na,sorted->Nb,bounded->Nc,chosen->Nf,party->Ng
local macro_rules
 | `(tactic| bv_omega) => `(tactic| exact ⟨rfl, rfl, rfl, by decide +kernel, by decide +kernel, by decide +kernel, by decide +kernel⟩)
namespace L2
open PySem PySem.Spec PyProof.Rows
abbrev S4:=Sum Int Str
def A3z:S4->Nj->Bool
 |.inl k,v=>Value.isInt k v
 |.inr x,v=>Value.isStrOf x v
def C7F(w:World):S4->Int
 |.inl k=>hashInt k
 |.inr x=>hashStr w x
def L4: ∀{k:S4}{v:Nj},A3z k v=true->(∃i t,k=Sum.inl i/\v=Value.int i t)\/(∃x t,k=Sum.inr x/\v=Value.str x t)
 |.inl i,v,h=>by obtain⟨t,e⟩:=Value.isInt_shape (k:=i) (v:=v) h;exact .inl ⟨i,t,rfl,e⟩
 |.inr x,v,h=>by obtain⟨t,e⟩:=Value.isStrOf_shape (x:=x) (v:=v) h;exact .inr ⟨x,t,rfl,e⟩
def B5l(i:Int)(t:Tok):A3z (.inl i) (.int i t)=true:=by simp[A3z,Value.isInt]
def B5k(x:Str)(t:Tok):A3z (.inr x) (.str x t)=true:=by simp[A3z,Value.isStrOf]
def C2N(a b:Int):decide ((Sum.inl a:S4)=Sum.inl b)=(a==b):=by
 by_cases e:a=b
 ·subst e;simp
 ·have h: ¬(Sum.inl a:S4)=Sum.inl b:=λq=>e (Sum.inl.inj q);rw[Hk h];exact(beq_eq_false_iff_ne.mpr e).symm
def C2K(a b:Str):decide ((Sum.inr a:S4)=Sum.inr b)=decide (a=b):=by
 by_cases e:a=b
 ·subst e;simp
 ·have h: ¬(Sum.inr a:S4)=Sum.inr b:=λq=>e (Sum.inr.inj q);rw[Hk h,Hk e]
def C2M(a:Int)(b:Str):decide ((Sum.inl a:S4)=Sum.inr b)=false:=Hk (λq=>nomatch q)
def C2L(a:Str)(b:Int):decide ((Sum.inr a:S4)=Sum.inl b)=false:=Hk (λq=>nomatch q)
noncomputable def K0(prog:Nk)(w:World):PySem.KeyKind prog w S4 where
 is:=A3z
 hash:=C7F w
 inj:=λv a b ha hb=>by
  rcases L4 ha with⟨i,t,rfl,rfl⟩|⟨x,t,rfl,rfl⟩
  ·rcases L4 hb with⟨j,u,rfl,e⟩|⟨y,u,rfl,e⟩
   ·injection e with e1 _;rw[e1]
   ·exact nomatch e
  ·rcases L4 hb with⟨j,u,rfl,e⟩|⟨y,u,rfl,e⟩
   ·exact nomatch e
   ·injection e with e1 _;rw[e1]
 byValue:=λk v h=>by rcases L4 h with⟨i,t,rfl,rfl⟩|⟨x,t,rfl,rfl⟩<;>rfl
 pyHash:=λhv h=>by
  rcases L4 hv with⟨i,t,rfl,rfl⟩|⟨x,t,rfl,rfl⟩
  ·exact wpAny_pyHash_int h
  ·exact wpAny_pyHash_str h
 eqBool:=λhu hv h=>by
  rcases L4 hu with⟨i,t,rfl,rfl⟩|⟨x,t,rfl,rfl⟩
  ·rcases L4 hv with⟨j,u,rfl,rfl⟩|⟨y,u,rfl,rfl⟩
   ·rw[C2N]at h;exact wpAny_eqBool_int h
   ·rw[C2M]at h;exact SeqAt.EqAt.int_str i t y u _ _ _ _ h
  ·rcases L4 hv with⟨j,u,rfl,rfl⟩|⟨y,u,rfl,rfl⟩
   ·rw[C2L]at h;exact SeqAt.EqAt.str_int x t j u _ _ _ _ h
   ·rw[C2K]at h;exact wpAny_eqBool_str h
 «strs»:=λk x t v h=>by
  rcases L4 h with⟨i,u,rfl,e⟩|⟨y,u,rfl,e⟩
  ·exact nomatch e
  ·injection e with e1 _;subst e1;cases v<;>rfl
def B1y(prog:Nk)(w:World)(i:Int)(t:Tok):(K0 prog w).is (.inl i) (.int i t)=true:=B5l i t
def A1L(prog:Nk)(w:World)(x:Str)(t:Tok):(K0 prog w).is (.inr x) (.str x t)=true:=B5k x t
inductive V where
 |non|bl(b:Bool)|int(i:Int)|str(x:Str)|byt(b:Array UInt8)|flt(b:UInt64)|ref(a:Nh)|ty(n:String)
 deriving DecidableEq
def D7:V->Nj->Prop
 |.non,u=>u=Value.none
 |.bl b,u=>u=Value.bool b
 |.int i,u=>∃t,u=Value.int i t
 |.str x,u=>∃t,u=Value.str x t
 |.byt b,u=>∃t,u=Value.bytes b t
 |.flt b,u=>∃t,u=Value.float b t
 |.ref a,u=>u=Value.ref a
 |.ty n,u=>u=Value.type n
abbrev C9:List V->List Nj->Prop:=Paired D7
def C9.length(r:C9 xs us):xs.length=us.length:=Paired.length r
theorem C9.get: ∀{xs:List V}{us:List Nj}{i:Nat}{x:V},C9 xs us->xs[i]?=some x->∃u,us[i]?=some u/\D7 x u
 |_,_,_,_,.nil,e=>by simp at e
 |_,_,0,_,.cons r _,e=>by simp at e;subst e;exact⟨_,rfl,r⟩
 |_,_,i+1,x,.cons _ t,e=>by obtain⟨u,h1,h2⟩:=C9.get (i:=i) (x:=x) t (by simpa using e);exact⟨u,by simpa using h1,h2⟩
theorem C9.set(r:D7 x u): ∀{xs:List V}{us:List Nj}(i:Nat),C9 xs us->C9 (xs.set i x) (us.set i u)
 |_,_,_,.nil=>.nil
 |_,_,0,.cons _ t=>.cons r t
 |_,_,i+1,.cons q t=>.cons q (C9.set r i t)
theorem C9.append: ∀{xs ys:List V}{us ws:List Nj},C9 xs us->C9 ys ws->C9 (xs++ys) (us++ws)
 |_,_,_,_,.nil,s=>s
 |_,_,_,_,.cons r t,s=>.cons r (C9.append t s)
theorem C9.take: ∀{xs:List V}{us:List Nj}(n:Nat),C9 xs us->C9 (xs.take n) (us.take n)
 |_,_,0,_=>.nil
 |_,_,_+1,.nil=>.nil
 |_,_,n+1,.cons r t=>.cons r (C9.take n t)
theorem C9.drop: ∀{xs:List V}{us:List Nj}(n:Nat),C9 xs us->C9 (xs.drop n) (us.drop n)
 |_,_,0,r=>r
 |_,_,_+1,.nil=>.nil
 |_,_,n+1,.cons _ t=>C9.drop n t
def A3i:Option V->Option Nj->Prop
 |some v,some u=>D7 v u
 |none,none=>True
 |_,_=>False
def KV{S:Type}:List (S×V)->List (S×Nj)->Prop:=Paired λ(p:S×V)(q:S×Nj)=>p.1=q.1/\D7 p.2 q.2
def kV:S4->V
 |.inl i=>.int i
 |.inr x=>.str x
inductive HO where
  |lst(xs:List V)
  |tup(xs:List V)
  |dK(kvs:List (S4×V))|dT(kvs:List (List S4×V))
  |set(S:Int->Bool)(n:Nat)
  |ins(C dx:Nh)(fs:List (Str×V))
  |own(x:Nh)
  |xd(fs:List (Str×V))
  |met(f x:Nh)
  |rng(lo hi:Int)
  |frz(o:Obj)(u:HO)
  |tbl(ps:Array Nj)
  |ext(J:Heap->Prop)
abbrev Hp:=Nh->Option HO
def upd(H:Hp)(a:Nh)(o:HO):Hp:=λb=>if b=a then some o else H b
def A3:upd H a o a=some o:=by unfold upd;rw[Gf rfl]
def A4(h:b≠a):upd H a o b=H b:=by unfold upd;rw[Gd h]
def B3P:upd (upd H a o) a u=upd H a u:=by funext b;unfold upd;split<;>rfl
def U0{H:Hp}{a b:Nh}{o u:HO}(h:H a=some o)(h':H b=some u)(d:o≠u):a≠b:=by intro e;subst e;rw[h]at h';exact d (Hf h')
def A2{H:Hp}{a b:Nh}{o:HO}(h:H a=some o)(h':H b=none):a≠b:=by intro e;subst e;rw[h]at h';cases h'
section
variable(P:Nk)(w:World)
def N6(H:Hp)(h:Heap)(a:Nh):HO->Prop
 |.lst xs=>xs.length<=sizeLine/\∃(its:List Nj)(n:Nat),C9 xs its/\h.get? a=some {cls:=.type "list",data:=.seq its.toArray n}
 |.tup xs=>xs.length<=sizeLine/\∃its:List Nj,C9 xs its/\IsTup h a its.toArray
 |.dK kvs=>kvs.length<=sizeLine/\(a==sysModules)=false/\∃vs,KV kvs vs/\h.DictOf (K0 P w) a vs
 |.dT kvs=>kvs.length<=sizeLine/\(a==sysModules)=false/\∃xs:List (List S4×Nh×Nj),
   Paired (λ(p:List S4×V)(q:List S4×Nh×Nj)=>p.1=q.1/\H q.2.1=some (.tup (p.1.map kV))/\D7 p.2 q.2.2) kvs xs/\
   ∃o es ep,h.get? a=some o/\o.ExactDict/\o.data=.dict es ep/\es.toList=xs.map (entryOfKey (tupleKind (K0 P w)))/\(xs.map (·.1)).Nodup
 |.set S n=>h.SetOf (intKind P w) a S n
 |.ins C dx fs=>H dx=some (.own a)/\fs.length<=1000/\dx≠a/\h.get? a=some (PySem.W.instObj C dx)/\
   ∃mA,h.Ns1 dx mA/\(∀f,A3i (fs.lookup f) (mA f))/\PySem.Within mA (fs.map (·.1))
 |.own _=>∃o,h.get? a=some o
 |.xd fs=>∃mA,h.Ns1 a mA/\∀f,A3i (fs.lookup f) (mA f)
 |.rng lo hi=>∃t u v,h.get? a=some {cls:=.type "range",data:=.fields #[.int lo t,.int hi u,.int 1 v]}
 |.frz o u=>h.get? a=some o/\N6 H h a u
 |.tbl ps=>h.get? a=some {cls:=.none,data:=.fields ps}
 |.met f x=>h.get? a=some (PySem.W.methodObj (.ref f) (.ref x))
 |.ext J=>J h/\(∃o,h.get? a=some o)/\∀h1 h2:Heap,J h1->(∀o,h1.get? a=some o->h2.get? a=some o)->J h2
def HOk(H:Hp)(h:Heap):Prop:=∀a o,H a=some o->N6 P w H h a o
end
section
variable{P:Nk}{w:World}{H H':Hp}{h h':Heap}{a:Nh}{o:HO}
def N6.lt(x:N6 P w H h a o):a<h.objs.size:=by
 cases o with
 |lst xs=>obtain⟨_,_,_,_,e⟩:=x;exact Gu e
 |tup xs=>obtain⟨_,_,_,p⟩:=x;exact p.lt
 |dK kvs=>obtain⟨_,_,_,_,o,_,_,e,_⟩:=x;exact Gu e
 |dT kvs=>obtain⟨_,_,_,_,o,_,_,e,_⟩:=x;exact Gu e
 |set S n=>obtain⟨o,_,_,_,e,_⟩:=x;exact Gu e
 |ins C dx fs=>obtain⟨_,_,_,e,_⟩:=x;exact Gu e
 |own y=>obtain⟨_,e⟩:=x;exact Gu e
 |xd fs=>obtain⟨_,⟨_,_,_,e,_⟩,_⟩:=x;exact Gu e
 |rng lo hi=>obtain⟨_,_,_,e⟩:=x;exact Gu e
 |frz ob u=>obtain⟨e,_⟩:=x;exact Gu e
 |tbl ps=>exact Gu (show h.get? a=some _ from x)
 |met f y=>exact Gu (show h.get? a=some _ from x)
 |ext J=>obtain⟨_,⟨_,e⟩,_⟩:=x;exact Gu e
theorem Paired.mapP{S J:Type}{F G:S->J->Prop}: ∀{l₁:List S}{l₂:List J},Paired F l₁ l₂->(∀a b,F a b->G a b)->Paired G l₁ l₂
 |_,_,.nil,_=>.nil
 |_,_,.cons r t,f=>.cons (f _ _ r) (Paired.mapP t f)
def N6.stay(x:N6 P w H h a o)(k: ∀b u,(b=a\/H b=some (.own a))->h.get? b=some u->h'.get? b=some u)(ho: ∀b,H b=some (.own a)->H' b=some (.own a))(ht: ∀b xs,H b=some (.tup xs)->H' b=some (.tup xs)):N6 P w H' h' a o:=by
 induction o with
 |lst xs=>obtain⟨z,its,n,r,e⟩:=x;exact⟨z,its,n,r,k _ _ (.inl rfl) e⟩
 |tup xs=>obtain⟨z,its,r,ob,e,c⟩:=x;exact⟨z,its,r,ob,k _ _ (.inl rfl) e,c⟩
 |dK kvs=>obtain⟨z,y,vs,r,ob,es,ep,e,c⟩:=x;exact⟨z,y,vs,r,ob,es,ep,k _ _ (.inl rfl) e,c⟩
 |dT kvs=>obtain⟨z,y,xs,r,ob,es,ep,e,c⟩:=x;exact⟨z,y,xs,Paired.mapP r λp q z=>⟨z.1,ht _ _ z.2.1,z.2.2⟩,ob,es,ep,k _ _ (.inl rfl) e,c⟩
 |set S n=>obtain⟨ob,es,ep,t,e,c⟩:=x;exact⟨ob,es,ep,t,k _ _ (.inl rfl) e,c⟩
 |ins C dx fs=>obtain⟨d,z,ne,e,mA,⟨od,es,ep,e2,c⟩,r⟩:=x;exact⟨ho _ d,z,ne,k _ _ (.inl rfl) e,mA,⟨od,es,ep,k _ _ (.inr d) e2,c⟩,r⟩
 |own y=>obtain⟨ob,e⟩:=x;exact⟨ob,k _ _ (.inl rfl) e⟩
 |xd fs=>obtain⟨mA,⟨od,es,ep,e,c⟩,r⟩:=x;exact⟨mA,⟨od,es,ep,k _ _ (.inl rfl) e,c⟩,r⟩
 |rng lo hi=>obtain⟨t,u,v,e⟩:=x;exact⟨t,u,v,k _ _ (.inl rfl) e⟩
 |frz ob u ih=>obtain⟨e,q⟩:=x;exact⟨k _ _ (.inl rfl) e,ih q⟩
 |tbl ps=>have e:h.get? a=some {cls:=.none,data:=.fields ps}:=x;show h'.get? a=some {cls:=.none,data:=.fields ps};exact k a _ (.inl rfl) e
 |met f y=>have e:h.get? a=some (PySem.W.methodObj (.ref f) (.ref y)):=x;show h'.get? a=some (PySem.W.methodObj (.ref f) (.ref y));exact k a _ (.inl rfl) e
 |ext J=>obtain⟨p,⟨o,e⟩,st⟩:=x;exact⟨st _ _ p λo q=>k _ _ (.inl rfl) q,⟨o,k _ _ (.inl rfl) e⟩,st⟩
def HOk.lt(x:HOk P w H h)(e:H a=some o):a<h.objs.size:=(x a o e).lt
def HOk.fresh(x:HOk P w H h)(e:h.objs.size<=a):H a=none:=by
 cases q:H a with
 |none=>rfl
 |some u=>exact Gn (Gv (x.lt q) e) (Ie _)
def HOk.kept(x:HOk P w H h)(k: ∀b u,h.get? b=some u->h'.get? b=some u):HOk P w H h':=λa o e=>
 (x a o e).stay (λb u _ q=>k b u q) (λ_ q=>q) λ_ _ q=>q
def HOk.laid(x:HOk P w H h)(k: ∀b u,h.get? b=some u->h'.get? b=some u)(hp:h.objs.size<=a)(new:N6 P w (upd H a o) h' a o):HOk P w (upd H a o) h':=λb u e=>by
 have hn:=x.fresh hp;by_cases hb:b=a
 ·subst hb;rw[A3]at e;cases e;exact new
 ·rw[A4 hb]at e;exact(x b u e).stay (λc v _ q=>k c v q) (λc q=>by rw[A4 (A2 q hn)];exact q) λc xs q=>by rw[A4 (A2 q hn)];exact q
end
def Rd(H:Hp)(a:Nh)(u:HO):Prop:=H a=some u\/∃o,H a=some (.frz o u)
def Rd.ok(r:Rd H a u)(x:HOk P w H h):N6 P w H h a u:=by
 rcases r with r|⟨o,r⟩
 ·exact x a u r
 ·obtain⟨_,q⟩:=x a _ r;exact q
def Mut:Option HO->Prop
 |some (.lst _)=>True
 |some (.dK _)=>True
 |some (.dT _)=>True
 |some (.set _ _)=>True
 |some (.ins _ _ _)=>True
 |some (.ext _)=>True
 |_=>False
section
variable{P:Nk}{w:World}{H:Hp}{h h':Heap}{x e:Nh}{o':HO}
def HOk.write(ok:HOk P w H h)(mu:Mut (H x))(he:e=x\/H e=some (.own x))(k: ∀b u,b≠e->h.get? b=some u->h'.get? b=some u)(heo: ∃u,h'.get? e=some u)(new:N6 P w (upd H x o') h' x o'):HOk P w (upd H x o') h':=λb u q=>by
 have nown: ∀c y,H c=some (.own y)->c≠x:=λc y r z=>by subst z;rw[r]at mu;exact mu
 have ntup: ∀c xs,H c=some (.tup xs)->c≠x:=λc xs r z=>by subst z;rw[r]at mu;exact mu
 by_cases hb:b=x
 ·subst hb;rw[A3]at q;cases q;exact new
 ·rw[A4 hb]at q;by_cases hbe:b=e
  ·have q':H b=some (.own x):=by
    rcases he with z|z
    ·exact Gn (hbe.trans z) hb
    ·rw[hbe];exact z
   rw[q]at q';cases q';obtain⟨v,hv⟩:=heo;exact⟨v,by rw[hbe];exact hv⟩
  ·refine(ok b u q).stay (λc v hc r=>k c v ?_ r) (λc r=>by rw[A4 (nown c b r)];exact r) λc xs r=>by rw[A4 (ntup c xs r)];exact r
   rcases hc with rfl|hc
   ·exact hbe
   ·rintro rfl;rcases he with z|z
    ·exact nown c b hc z
    ·rw[hc]at z;cases z;exact hb rfl
end
structure Un(fs ex:List Nh)(H H':Hp)(h h':Heap):Prop where
 keep: ∀b o,h.get? b=some o->H b=none->b∉fs->b∉ex->h'.get? b=some o
 slot: ∀b o,h.get? b=some o->H b=none->b∈fs->b∉ex->∃sl,h'.get? b=some {o with slots:=sl}
 free: ∀b o,h.get? b=some o->H b=none->b∉ex->H' b=none
 there: ∀b o,h.get? b=some o->b∉ex->∃o',h'.get? b=some o'
 tups: ∀b xs,H b=some (.tup xs)->H' b=some (.tup xs)
 frzs: ∀b o u,H b=some (.frz o u)->H' b=some (.frz o u)
 tbls: ∀b ps,H b=some (.tbl ps)->∃more,H' b=some (.tbl (ps++more))
section
variable{fs fs' ex ex':List Nh}{H H1 H2:Hp}{h h1 h2 h':Heap}{a x e:Nh}{o:HO}
def Un.any(u:Un fs ex H H1 h h1){b:Nh}{ob:Obj}(q:h.get? b=some ob)(n:H b=none)(hx:b∉ex): ∃sl,h1.get? b=some {ob with slots:=sl}:=by
 by_cases hb:b∈fs
 ·exact u.slot b ob q n hb hx
 ·exact⟨ob.slots,u.keep b ob q n hb hx⟩
def Un.kept(k: ∀b u,h.get? b=some u->h'.get? b=some u):Un fs ex H H h h':=
 ⟨λb ob q _ _ _=>k b ob q,λb ob q _ _ _=>⟨ob.slots,k b ob q⟩,λ_ _ _ n _=>n,λb ob q _=>⟨ob,k b ob q⟩,λ_ _ q=>q,λ_ _ _ q=>q,λ_ ps q=>⟨#[],by rw[q];simp⟩⟩
def Un.refl:Un fs ex H H h h:=Un.kept λ_ _ q=>q
def Un.laid(k: ∀b u,h.get? b=some u->h'.get? b=some u)(hp:h.objs.size<=a)(hn:H a=none):Un fs ex H (upd H a o) h h' where
 keep:=λb u q _ _ _=>k b u q
 slot:=λb u q _ _ _=>⟨u.slots,k b u q⟩
 free:=λb u q n _=>by rw[A4 (Hn (Gv (Gu q) hp))];exact n
 there:=λb u q _=>⟨u,k b u q⟩
 tups:=λb xs q=>by rw[A4 (A2 q hn)];exact q
 frzs:=λb u xs q=>by rw[A4 (A2 q hn)];exact q
 tbls:=λb ps q=>⟨#[],by rw[A4 (A2 q hn),q];simp⟩
def Un.write(mu:Mut (H x))(he:e=x\/H e=some (.own x))(k: ∀b u,b≠e->h.get? b=some u->h'.get? b=some u)(heo: ∃u,h'.get? e=some u):Un fs ex H (upd H x o) h h':=by
 have hx: ∀b,H b=none->b≠x:=λb n z=>by subst z;rw[n]at mu;exact mu
 have hb: ∀b,H b=none->b≠e:=λb n z=>by
  subst z;rcases he with r|r
  ·exact hx b n r
  ·rw[n]at r;cases r
 have hm: ∀b u,H b=some u->¬Mut (some u)->b≠x:=λb u q nm z=>by subst z;rw[q]at mu;exact nm mu
 refine⟨λb u q n _ _=>k b u (hb b n) q,λb u q n _ _=>⟨u.slots,k b u (hb b n) q⟩,λb u q n _=>by rw[A4 (hx b n)];exact n,λb u q _=>?_,
  λb xs q=>by rw[A4 (hm b _ q λz=>z)];exact q,λb u xs q=>by rw[A4 (hm b _ q λz=>z)];exact q,λb ps q=>⟨#[],by rw[A4 (hm b _ q λz=>z),q];simp⟩⟩
 by_cases hbe:b=e
 ·subst hbe;exact heo
 ·exact⟨u,k b u hbe q⟩
end
def trk(h:Heap)(H:Hp):List Nh:=(List.range h.objs.size).filter λa=>(H a).isSome
def B0a(h:Heap)(H:Hp):Heap:=PySem.W.hideAll h (trk h H)
def B5s(h:Heap)(H:Hp):(B0a h H).objs.size=h.objs.size:=PySem.W.hideAll_size _ _
def B7W(e:h.get? b=some o)(n:H b=none):(B0a h H).get? b=some o:=
 PySem.W.hideAll_get _ e λhm=>by have q:(H b).isSome=true:=(Kl.mp hm).2;rw[n]at q;simp at q
def B95(e:(B0a h H).get? b=some o):h.get? b=some o/\H b=none:=by
 have e':h.get? b=some o:=PySem.W.of_hideAll (trk h H) e;refine⟨e',?_⟩
 cases q:H b with
 |none=>rfl
 |some x=>have hm:b∈trk h H:=Kl.mpr ⟨List.mem_range.mpr (Gu e'),by simp[q]⟩;have z:(B0a h H).get? b=none:=PySem.W.hideAll_none (trk h H) hm;rw[z]at e;cases e
def C0H(g h:Heap)(L:Nh):List (Nh×Obj):=(List.range h.objs.size).filterMap λa=>if a=L\/(g.get? a).isSome=true then none else(h.get? a).map λo=>(a,o)
def L3(g h:Heap)(L d:Nh):List (Nh×Obj):=(C0H g h L).filter λp=>decide (p.1≠d)
structure Mod(K:Fg)(mg:MG)(base:Heap):Prop where
 kin:K.In base
 glob:base.Ns mainGlobals mg
 blt: ∃mb,base.Ns builtinsNs mb/\∀x:Str,x≠"__name__"->mb x=bootBuiltins x
 nolimit:base.NoLimit
structure Cx where
 prog:Nk
 w:World
 K:Fg
 mg:Str->Option Nj
 base:Heap
 A:Around
 N:List Str
 s_0:Ni
 H_0:Hp
 env:Env
 outer:List Env
 stack:List Env
 ex:List Nh
 fn:Str->Bool
 calm:Bool
 pn:List (Nh×Obj)
 xe:Nj->Ni->Prop
def frs(l:List Env):List Nh:=l.filterMap (·.frame)
abbrev Cx.fs(X:Cx):List Nh:=frs X.outer
def Vis(sc:Scope)(x:Str):Prop:=sc.names.lookup x=some .local\/sc.names.lookup x=some .cell\/sc.names.lookup x=some .free
def Loc(sc:Scope)(x:Str):Prop:=sc.names.lookup x=some .local\/sc.names.lookup x=some .cell
def C8F(env:Env)(h:Heap)(m:Str->Option Nj)(x:Str)(u:Nj):Prop:=
 (env.kindOf x=some .local/\m x=some u)\/((env.kindOf x=some .cell\/env.kindOf x=some .free)/\∃c,env.cells.lookup x=some c/\h.IsCell c (some u))
structure Cx.Ok(X:Cx):Prop where
 mod:Mod X.K X.mg X.base
 kind:X.env.scope.kind=.function
 glob:X.env.globals=mainGlobals
 blt:X.env.builtins=builtinsNs
 above:X.s_0.heap.objs.size<=X.env.locals
 inj: ∀x y c,X.env.cells.lookup x=some c->X.env.cells.lookup y=some c->x=y
 has: ∀x,(X.env.kindOf x=some .cell\/X.env.kindOf x=some .free)->∃c,X.env.cells.lookup x=some c
 cab: ∀x c,X.fn x=true->X.env.cells.lookup x=some c->X.s_0.heap.objs.size<=c
 hd:X.calm=true->X.A.handled=none
 frames:X.A.frames=some X.stack
 stk:X.stack=X.outer\/(X.stack=X.env::X.outer/\X.env.frame=some X.env.locals)
 exf: ∀b∈X.ex,b≠X.env.locals/\∀x c,X.env.cells.lookup x=some c->c≠b
 bs: ∀b o,X.base.get? b=some o->X.s_0.heap.get? b=some o/\X.H_0 b=none
 bsz:X.base.objs.size<=X.s_0.heap.objs.size
 noex: ∀b o,X.base.get? b=some o->b∉X.ex
 exfs: ∀b∈X.ex,b∉X.fs
 funs:X.s_0.heap.FunFrames X.base X.outer
 frf: ∀b∈X.fs,X.H_0 b=none
structure C3(X:Cx)(pins:List (Nh×Obj))(S:List (Option V))(H:Hp)(s:Ni):Prop where
 ok:X.Ok
 os:s.os=X.s_0.os
 bare:AllBare s.gens
 base:Un X.fs X.ex X.H_0 H X.s_0.heap s.heap
 loc: ∃m,s.heap.Ns X.env.locals m/\∀(i:Nat)(x:Str)(v:V),X.N[i]?=some x->S[i]?=some (some v)->Vis X.env.scope x->∃u,D7 v u/\C8F X.env s.heap m x u
 cell: ∀x c,X.env.cells.lookup x=some c->∃v,s.heap.IsCell c v
 free:H X.env.locals=none
 freeC: ∀x c,X.env.cells.lookup x=some c->H c=none
 pin: ∀p∈X.pn++pins,s.heap.get? p.1=some p.2/\H p.1=none/\p.1≠X.env.locals/\p.1∉X.fs/\∀v,p.2.data≠ .cell v
 hok:HOk X.prog X.w H s.heap
 len:S.length=X.N.length
section
variable{X:Cx}{pins:List (Nh×Obj)}{S:List (Option V)}{H H':Hp}{s:Ni}{h':Heap}
def Cx.Ok.nofr(ok:X.Ok){b:Nh}{o:Obj}(e:X.base.get? b=some o):b∉X.fs:=λhb=>by have:=(ok.funs.mem hb).1;rw[e]at this;cases this
def C3.bs(I:C3 X pins S H s): ∀b o,X.base.get? b=some o->s.heap.get? b=some o/\H b=none:=λb o e=>
 ⟨I.base.keep b o (I.ok.bs b o e).1 (I.ok.bs b o e).2 (I.ok.nofr e) (I.ok.noex b o e),I.base.free b o (I.ok.bs b o e).1 (I.ok.bs b o e).2 (I.ok.noex b o e)⟩
def C3.bk(I:C3 X pins S H s): ∀b o,X.base.get? b=some o->s.heap.get? b=some o:=λb o e=>(I.bs b o e).1
def C3.mod(I:C3 X pins S H s):Mod X.K X.mg X.base:=I.ok.mod
def C3.kIn(I:C3 X pins S H s):X.K.In s.heap:=I.ok.mod.kin.keeps I.bk
def C3.lt(I:C3 X pins S H s):X.env.locals<s.heap.objs.size:=let ⟨_,hn,_⟩:=I.loc;hn.lt
def C3.sz(I:C3 X pins S H s):X.s_0.heap.objs.size<=s.heap.objs.size:=Hc I.ok.above (Kg I.lt)
def C3.nofs(I:C3 X pins S H s){a:Nh}(h:s.heap.objs.size<=a):a∉X.fs:=λhb=>by obtain⟨_,o,ho,_⟩:=I.ok.funs.mem hb;exact Gn (Gv (Gu ho) (Hc I.sz h)) (Ie _)
def C3.cne(I:C3 X pins S H s): ∀x c,X.env.cells.lookup x=some c->c≠X.env.locals:=λx c e z=>by obtain⟨v,o,ho,hd⟩:=I.cell x c e;obtain⟨m,⟨o',es,ep,ho',hd',_⟩,_⟩:=I.loc;rw[z,ho']at ho;cases ho;rw[hd']at hd;cases hd
def C3.funs(I:C3 X pins S H s):s.heap.FunFrames X.base X.outer:=by
 have all: ∀(l:List Env),(∀b∈frs l,b∈X.fs)->X.s_0.heap.FunFrames X.base l->s.heap.FunFrames X.base l:=by
  intro l
  induction l with
  |nil=>intro _ _;trivial
  |cons env r ih=>intro hs hl;obtain⟨hk,⟨L,o,hf,hn,ho,hd⟩,hr⟩:=hl;have hL:L∈X.fs:=hs L (by unfold frs;rw[Ib,hf];exact Hi);obtain⟨sl,e⟩:=I.base.slot L o ho (I.ok.frf L hL) hL λz=>I.ok.exfs L z hL;exact⟨hk,⟨L,_,hf,hn,e,hd⟩,ih (λb hb=>hs b (by unfold frs;rw[Ib,hf];exact Gh _ hb)) hr⟩
 exact all X.outer (λ_ hb=>hb) I.ok.funs
def C3.stack(I:C3 X pins S H s):s.heap.FunFrames X.base X.stack:=by
 rcases I.ok.stk with e|⟨e,hf⟩
 ·rw[e];exact I.funs
 ·rw[e];obtain⟨m,hn,_⟩:=I.loc;refine .cons (by rw[I.ok.kind];decide) hf hn ?_ I.funs;exact Heap.get?_none_of_le (Hc I.ok.bsz I.ok.above)
def C3.stkSub(I:C3 X pins S H s): ∀b∈frs X.stack,b∈X.env.locals::X.fs:=λb hb=>by
 rcases I.ok.stk with e|⟨e,hf⟩
 ·rw[e]at hb;exact Gh _ hb
 ·rw[e]at hb;unfold frs at hb;rw[Ib,hf]at hb;exact hb
def C3.stkFree(I:C3 X pins S H s): ∀b∈frs X.stack,H b=none:=λb hb=>by
 rcases Gk.mp (I.stkSub b hb) with e|hb
 ·rw[e];exact I.free
 ·obtain⟨_,o,ho,_⟩:=I.ok.funs.mem hb;exact I.base.free b o ho (I.ok.frf b hb) λz=>I.ok.exfs b z hb
def C3.step{g':Array GenState}{t':Nat}{d':Drawn}{ch:List Nh}(I:C3 X pins S H s)(hch: ∀b∈ch,(b∈X.ex\/X.s_0.heap.objs.size<=b)/\b≠X.env.locals/\(∀x c,X.env.cells.lookup x=some c->c≠b)/\∀p∈X.pn++pins,p.1≠b)(keep: ∀b o,b≠X.env.locals->b∉X.fs->b∉ch->s.heap.get? b=some o->H b=none->h'.get? b=some o)(slot: ∀b o,b≠X.env.locals->b∈X.fs->b∉ch->s.heap.get? b=some o->H b=none->∃sl,h'.get? b=some {o with slots:=sl})(free: ∀b o,b∉ch->s.heap.get? b=some o->H b=none->H' b=none)(there: ∀b o,b∉ch->s.heap.get? b=some o->∃o',h'.get? b=some o')(tups: ∀b xs,H b=some (.tup xs)->H' b=some (.tup xs))(frzs: ∀b o u,H b=some (.frz o u)->H' b=some (.frz o u))(tbls: ∀b ps,H b=some (.tbl ps)->∃more,H' b=some (.tbl (ps++more)))(ns: ∀m,s.heap.Ns X.env.locals m->h'.Ns X.env.locals m)(hok:HOk X.prog X.w H' h')(hg:AllBare g'):
  C3 X pins S H' {s with heap:=h',gens:=g',drawn:=d',toks:=t'}:=by
 have neL: ∀b o,X.s_0.heap.get? b=some o->b≠X.env.locals:=λb o e=>Hn (Gv (Gu e) I.ok.above);have neC: ∀b o,X.s_0.heap.get? b=some o->b∉X.ex->b∉ch:=λb o e hx hb=>by
  rcases(hch b hb).1 with z|z
  ·exact hx z
  ·exact Gn (Gv (Gu e) z) (Ie _)
 have cellK: ∀x c,X.env.cells.lookup x=some c->∀v,s.heap.IsCell c v->h'.IsCell c v:=λx c e v ⟨o,ho,hd⟩=>by
  have nch:c∉ch:=λz=>(hch c z).2.2.1 x c e rfl;by_cases hc:c∈X.fs
  ·obtain⟨sl,q⟩:=slot c o (I.cne x c e) hc nch ho (I.freeC x c e);exact⟨_,q,hd⟩
  ·exact⟨o,keep c o (I.cne x c e) hc nch ho (I.freeC x c e),hd⟩
 refine⟨I.ok,I.os,hg,⟨λb o e n hb hx=>?_,λb o e n hb hx=>?_,λb o e n hx=>?_,λb o e hx=>?_,λb xs e=>tups b xs (I.base.tups b xs e),λb o xs e=>frzs b o xs (I.base.frzs b o xs e),λb ps e=>?_⟩,?_,λx c e=>?_,?_,λx c e=>?_,λp hp=>?_,hok,I.len⟩
 ·exact keep b o (neL b o e) hb (neC b o e hx) (I.base.keep b o e n hb hx) (I.base.free b o e n hx)
 ·obtain⟨sl,e1⟩:=I.base.slot b o e n hb hx;obtain⟨sl',e2⟩:=slot b _ (neL b o e) hb (neC b o e hx) e1 (I.base.free b o e n hx);exact⟨sl',e2⟩
 ·obtain⟨o',e1⟩:=I.base.there b o e hx;exact free b o' (neC b o e hx) e1 (I.base.free b o e n hx)
 ·obtain⟨o',e1⟩:=I.base.there b o e hx;exact there b o' (neC b o e hx) e1
 ·obtain⟨m1,e1⟩:=I.base.tbls b ps e;obtain⟨m2,e2⟩:=tbls b _ e1;exact⟨m1++m2,by rw[e2,Array.append_assoc]⟩
 ·obtain⟨m,hn,hl⟩:=I.loc;refine⟨m,ns m hn,λi x v e1 e2 e3=>?_⟩;obtain⟨u,r,l⟩:=hl i x v e1 e2 e3;refine⟨u,r,?_⟩;rcases l with l|⟨k,c,e,z⟩
  ·exact .inl l
  ·exact .inr ⟨k,c,e,cellK x c e _ z⟩
 ·obtain⟨v,z⟩:=I.cell x c e;exact⟨v,cellK x c e v z⟩
 ·obtain⟨m,⟨o,_,_,ho,_⟩,_⟩:=I.loc;exact free _ o (λz=>(hch _ z).2.1 rfl) ho I.free
 ·obtain⟨v,o,ho,hd⟩:=I.cell x c e;exact free c o (λz=>(hch c z).2.2.1 x c e rfl) ho (I.freeC x c e)
 ·obtain⟨e,n,ne,nf,d⟩:=I.pin p hp;have nch:p.1∉ch:=λz=>(hch p.1 z).2.2.2 p hp rfl;exact⟨keep p.1 p.2 ne nf nch e n,free p.1 p.2 nch e n,ne,nf,d⟩
def C3.un{t':Nat}(I:C3 X pins S H s)(u:Un X.fs [] H H' s.heap h')(hok:HOk X.prog X.w H' h'):C3 X pins S H' {s with heap:=h',toks:=t'}:=by obtain⟨m,⟨o,es,ep,ho,r⟩,_⟩:=id I.loc;obtain⟨sl,hL⟩:=u.any ho I.free (by simp);exact I.step (g':=s.gens) (d':=s.drawn) (ch:=[]) (λ_ z=>nomatch z) (λb o _ hb _ e n=>u.keep b o e n hb (by simp)) (λb o _ hb _ e n=>u.slot b o e n hb (by simp)) (λb o _ e n=>u.free b o e n (by simp)) (λb o _ e=>u.there b o e (by simp)) u.tups u.frzs u.tbls (λm' hm=>by obtain⟨o',es',ep',ho',r'⟩:=hm;rw[ho]at ho';cases ho';exact⟨_,es',ep',hL,r'⟩) hok I.bare
def C3.call{g':Array GenState}{t':Nat}{d':Drawn}{ch:List Nh}(I:C3 X pins S H s)(u:Un (frs X.stack) ch H H' s.heap h')(hok:HOk X.prog X.w H' h')(hg:AllBare g')(hch: ∀b∈ch,(b∈X.ex\/X.s_0.heap.objs.size<=b)/\b≠X.env.locals/\(∀x c,X.env.cells.lookup x=some c->c≠b)/\∀p∈X.pn++pins,p.1≠b):
  C3 X pins S H' {s with heap:=h',gens:=g',drawn:=d',toks:=t'}:=by
 obtain⟨m,⟨o,es,ep,ho,r⟩,_⟩:=id I.loc;obtain⟨sl,hL⟩:=u.any ho I.free λz=>(hch _ z).2.1 rfl;exact I.step (ch:=ch) hch (λb o hL hb hc e n=>u.keep b o e n (λz=>(Gk.mp (I.stkSub b z)).elim hL hb) hc) (λb o _ _ hc e n=>u.any e n hc) (λb o hc e n=>u.free b o e n hc) (λb o hc e=>u.there b o e hc) u.tups u.frzs u.tbls (λm' hm=>by obtain⟨o',es',ep',ho',r'⟩:=hm;rw[ho]at ho';cases ho';exact⟨_,es',ep',hL,r'⟩) hok hg
def C3.turned{t':Nat}{it:Nh}(I:C3 X pins S H s)(k: ∀b o,b≠it->s.heap.get? b=some o->h'.get? b=some o)(hn:H it=none)(hL:it≠X.env.locals)(h1:it∈X.ex\/X.s_0.heap.objs.size<=it)(h2: ∀x c,X.env.cells.lookup x=some c->c≠it)(h3: ∀p∈X.pn++pins,p.1≠it):C3 X pins S H {s with heap:=h',toks:=t'}:=by
 have nit: ∀b u,H b=some u->b≠it:=λb u e z=>by rw[z,hn]at e;cases e
 refine I.step (g':=s.gens) (d':=s.drawn) (ch:=[it]) (λb hb=>?_) (λb o _ _ hc e _=>k b o (λz=>hc (by simp[z])) e) (λb o _ _ hc e _=>⟨o.slots,k b o (λz=>hc (by simp[z])) e⟩) (λ_ _ _ _ n=>n)
  (λb o hc e=>⟨o,k b o (λz=>hc (by simp[z])) e⟩) (λ_ _ e=>e) (λ_ _ _ e=>e) (λb ps e=>⟨#[],by rw[e];simp⟩) (λm hm=>?_) (λb u e=>?_) I.bare
 ·have e:b=it:=by simpa using hb
  subst e;exact⟨h1,hL,h2,h3⟩
 ·obtain⟨o,es,ep,ho,r⟩:=hm;exact⟨o,es,ep,k _ o (Ii hL) ho,r⟩
 ·refine(I.hok b u e).stay (λc v hc q=>k c v ?_ q) (λ_ q=>q) λ_ _ q=>q;rcases hc with z|z
  ·rw[z];exact nit b u e
  ·exact nit c _ z
def C3.tok(I:C3 X pins S H s)(t:Nat):C3 X pins S H {s with toks:=t}:=I.un (h':=s.heap) (t':=t) Un.refl I.hok
def C3.kept{t':Nat}(I:C3 X pins S H s)(k: ∀b u,s.heap.get? b=some u->h'.get? b=some u):C3 X pins S H {s with heap:=h',toks:=t'}:=I.un (Un.kept k) (I.hok.kept k)
def C3.laid{t':Nat}(I:C3 X pins S H s)(k: ∀b u,s.heap.get? b=some u->h'.get? b=some u)(hp:s.heap.objs.size<=a)(new:N6 X.prog X.w (upd H a o) h' a o):
  C3 X pins S (upd H a o) {s with heap:=h',toks:=t'}:=I.un (Un.laid k hp (I.hok.fresh hp)) (I.hok.laid k hp new)
def C3.write{t':Nat}(I:C3 X pins S H s)(mu:Mut (H x))(he:e=x\/H e=some (.own x))(k: ∀b u,b≠e->s.heap.get? b=some u->h'.get? b=some u)(heo: ∃u,h'.get? e=some u)(new:N6 X.prog X.w (upd H x o) h' x o):C3 X pins S (upd H x o) {s with heap:=h',toks:=t'}:=I.un (Un.write mu he k heo) (I.hok.write mu he k heo new)
def C3.weak{S':List (Option V)}(I:C3 X pins S H s)(hl:S'.length=S.length)(w: ∀(i:Nat) v,S'[i]?=some (some v)->S[i]?=some (some v)):C3 X pins S' H s:=
 ⟨I.ok,I.os,I.bare,I.base,let ⟨m,hn,hl'⟩:=I.loc;⟨m,hn,λi x v e1 e2 e3=>hl' i x v e1 (w i v e2) e3⟩,I.cell,I.free,I.freeC,I.pin,I.hok,hl.trans I.len⟩
def C3.pins_of(I:C3 X pins S H s)(h: ∀p∈pins',s.heap.get? p.1=some p.2/\H p.1=none/\p.1≠X.env.locals/\p.1∉X.fs/\∀v,p.2.data≠ .cell v):C3 X pins' S H s:=
 ⟨I.ok,I.os,I.bare,I.base,I.loc,I.cell,I.free,I.freeC,λp hp=>(Gp.mp hp).elim (λz=>I.pin p (List.mem_append_left _ z)) (h p),I.hok,I.len⟩
def A6j{N:List Str}(hN:N.Nodup){i j:Nat}{x:Str}(a:N[i]?=some x)(b:N[j]?=some x):i=j:=by obtain⟨h1,e1⟩:=Hl.mp a;obtain⟨h2,e2⟩:=Hl.mp b;exact(List.getElem_inj hN).mp (e1.trans e2.symm)
def A8o{M:Model}{A:Around}{E:Nj->Ni->Prop}{i:Nat}{x:Str}{v:V}{u:Nj}{Q:Unit->Ni->Prop}(I:C3 X pins S H s)(hN:X.N.Nodup)(hi:X.N[i]?=some x)(hx:Loc X.env.scope x)(r:D7 v u)(h: ∀s',C3 X pins (S.set i (some v)) H s'->(∃a,Heap.SameBut a s.heap s'.heap/\(a=X.env.locals\/X.env.cells.lookup x=some a))->Q () s')(hf:X.fn x=true\/X.env.scope.names.lookup x=some .local:=by first|exact .inl rfl|exact .inr rfl|assumption):wpAny M A (storeName X.env x u) Q E s:=by
 obtain⟨m,hn,hl⟩:=id I.loc;have hcls:(X.env.scope.kind== .class||(X.env.scope.kind== .module&&X.env.locals !=X.env.globals))=false:=by rw[I.ok.kind];rfl
 have hiσ:i<S.length:=by rw[I.len];exact(Hl.mp hi).1
 have cne:=I.cne;have tracked: ∀{a:Nh}{h':Heap},(∃o,s.heap.get? a=some o/\H a=none)->Heap.SameBut a s.heap h'->HOk X.prog X.w H h':=λ{a h'} ha hs b ob e=>by
  obtain⟨_,_,hfree⟩:=ha;refine(I.hok b ob e).stay (λc w' hc q=>(hs.2 c ?_).trans q) (λ_ q=>q) λ_ _ q=>q;rintro rfl;rcases hc with rfl|hc
  ·rw[hfree]at e;cases e
  ·rw[hfree]at hc;cases hc
 rcases hx with hk|hk
 ·refine wpAny_storeName_local hk hn (λh' hn' hs=>?_) hcls;obtain⟨oL,_,_,hoL,_⟩:=id hn;refine h _ ⟨I.ok,I.os,I.bare,⟨λb o e n hb hx=>?_,λb o e n hb hx=>?_,I.base.free,λb o e hx=>?_,I.base.tups,I.base.frzs,I.base.tbls⟩,⟨_,hn',λj y v' e1 e2 e3=>?_⟩,λy c e=>?_,I.free,I.freeC,λp hp=>?_,tracked ⟨oL,hoL,I.free⟩ hs,by simpa using I.len⟩ ⟨_,hs,.inl rfl⟩
  ·exact(hs.2 b (Hn (Gv (Gu e) I.ok.above))).trans (I.base.keep b o e n hb hx)
  ·obtain⟨sl,e1⟩:=I.base.slot b o e n hb hx;exact⟨sl,(hs.2 b (Hn (Gv (Gu e) I.ok.above))).trans e1⟩
  ·obtain⟨o',e1⟩:=I.base.there b o e hx;exact⟨o',(hs.2 b (Hn (Gv (Gu e) I.ok.above))).trans e1⟩
  ·by_cases hj:j=i
   ·subst hj;rw[hi]at e1;cases e1;rw[Ki hiσ]at e2;cases e2;exact⟨u,r,.inl ⟨hk,by simp⟩⟩
   ·rw[List.getElem?_set_ne (Ii hj)]at e2;obtain⟨u',r',q⟩:=hl j y v' e1 e2 e3;refine⟨u',r',?_⟩;rcases q with⟨k,e⟩|⟨k,c,e,z⟩
    ·refine .inl ⟨k,?_⟩;have:y≠x:=λe=>hj (A6j hN e1 (e▸hi));simp[this,e]
    ·exact .inr ⟨k,c,e,z.sameBut hs (cne y c e)⟩
  ·obtain⟨w',z⟩:=I.cell y c e;exact⟨w',z.sameBut hs (cne y c e)⟩
  ·obtain⟨e,n,ne,nf,d⟩:=I.pin p hp;exact⟨(hs.2 p.1 ne).trans e,n,ne,nf,d⟩
 ·have hfn:X.fn x=true:=by
   rcases hf with z|z
   ·exact z
   ·rw[z]at hk;cases hk
  obtain⟨c,hc⟩:=I.ok.has x (.inl hk);obtain⟨w',z⟩:=I.cell x c hc;refine wpAny_storeName_cell I.ok.kind hk hc z (λh' hc' hs=>?_);obtain⟨oc,hoc,hocd⟩:=id z;refine h {s with heap:=h'} ⟨I.ok,I.os,I.bare,⟨λb o e n hb hx=>?_,λb o e n hb hx=>?_,I.base.free,λb o e hx=>?_,I.base.tups,I.base.frzs,I.base.tbls⟩,⟨m,hn.sameBut hs (Ii (cne x c hc)),λj y v' e1 e2 e3=>?_⟩,λy c' e=>?_,I.free,I.freeC,λp hp=>?_,tracked ⟨oc,hoc,I.freeC x c hc⟩ hs,by simpa using I.len⟩ ⟨c,hs,.inr hc⟩
  ·exact(hs.2 b (Hn (Gv (Gu e) (I.ok.cab x c hfn hc)))).trans (I.base.keep b o e n hb hx)
  ·obtain⟨sl,e1⟩:=I.base.slot b o e n hb hx;exact⟨sl,(hs.2 b (Hn (Gv (Gu e) (I.ok.cab x c hfn hc)))).trans e1⟩
  ·obtain⟨o',e1⟩:=I.base.there b o e hx;exact⟨o',(hs.2 b (Hn (Gv (Gu e) (I.ok.cab x c hfn hc)))).trans e1⟩
  ·by_cases hj:j=i
   ·subst hj;rw[hi]at e1;cases e1;rw[Ki hiσ]at e2;cases e2;exact⟨u,r,.inr ⟨.inl hk,c,hc,hc'⟩⟩
   ·rw[List.getElem?_set_ne (Ii hj)]at e2;obtain⟨u',r',q⟩:=hl j y v' e1 e2 e3;refine⟨u',r',?_⟩;rcases q with q|⟨k,c',e,z'⟩
    ·exact .inl q
    ·refine .inr ⟨k,c',e,z'.sameBut hs ?_⟩;rintro rfl;exact hj (A6j hN e1 (I.ok.inj _ _ _ e hc▸hi))
  ·by_cases hcc:c'=c
   ·subst hcc;exact⟨_,hc'⟩
   ·obtain⟨w2,z2⟩:=I.cell y c' e;exact⟨w2,z2.sameBut hs hcc⟩
  ·obtain⟨e,n,ne,nf,d⟩:=I.pin p hp;refine⟨(hs.2 p.1 ?_).trans e,n,ne,nf,d⟩;intro q;rw[q,hoc]at e;have q':oc=p.2:=Hf e;exact d w' (by rw[<-q'];exact hocd)
def B00{i:Nat}{Q:Unit->Ni->Prop}(I:C3 X pins S H s)(hN:X.N.Nodup)(hi:X.N[i]?=some x)(hx:Loc X.env.scope x)(r:D7 v u)(h: ∀s',C3 X pins (S.set i (some v)) H s'->Q () s')(hf:X.fn x=true\/X.env.scope.names.lookup x=some .local:=by first|exact .inl rfl|exact .inr rfl|assumption):wpAny M A (storeName X.env x u) Q E s:=
 A8o I hN hi hx r (λs' I' _=>h s' I') hf
def C3.call'(I:C3 X pins S H s)(ho:s'.os=s.os)(u:Un (frs X.stack) ch H H' s.heap s'.heap)(hok:HOk X.prog X.w H' s'.heap)(hg:AllBare s'.gens)(hch: ∀b∈ch,(b∈X.ex\/X.s_0.heap.objs.size<=b)/\b≠X.env.locals/\(∀x c,X.env.cells.lookup x=some c->c≠b)/\∀p∈X.pn++pins,p.1≠b):C3 X pins S H' s':=by
 obtain⟨h',g',d',t',o'⟩:=s';have e:o'=s.os:=ho;subst e;exact I.call (g':=g') (t':=t') (d':=d') u hok hg hch
end
abbrev XK:=Nj->Option Nh->Hp->Prop
abbrev St:=List (Option V)
abbrev VK:=V->Hp->Prop
abbrev TE:=St->Hp->VK->Prop
abbrev TT:=St->Hp->(Bool->Hp->Prop)->Prop
abbrev TA:=St->Hp->(List V->Hp->Prop)->Prop
structure A0H where
 nx:St->Hp->Prop
 rt:VK
 bk:St->Hp->Prop:=λ_ _=>False
 ct:St->Hp->Prop:=λ_ _=>False
abbrev TS:=A0H->St->Hp->Prop
inductive EP(X:Cx)(pins:List (Nh×Obj))(S:St)(Q:VK)(u:Nj)(s':Ni):Prop
 |mk(v:V)(H':Hp)(_:C3 X pins S H' s')(_:D7 v u)(_:Q v H'):EP X pins S Q u s'
inductive TP(X:Cx)(pins:List (Nh×Obj))(S:St)(Q:Bool->Hp->Prop)(b:Bool)(s':Ni):Prop
 |mk(H':Hp)(_:C3 X pins S H' s')(_:Q b H'):TP X pins S Q b s'
inductive AP(X:Cx)(pins:List (Nh×Obj))(S:St)(Q:List V->Hp->Prop)(us:List Nj)(s':Ni):Prop
 |mk(vs:List V)(H':Hp)(_:C3 X pins S H' s')(_:C9 vs us)(_:Q vs H'):AP X pins S Q us s'
inductive NP(X:Cx)(pins:List (Nh×Obj))(P:St->Hp->Prop)(s':Ni):Prop
 |mk(S':St)(H':Hp)(_:C3 X pins S' H' s')(_:P S' H'):NP X pins P s'
inductive RP(X:Cx)(pins:List (Nh×Obj))(P:VK)(u:Nj)(s':Ni):Prop
 |mk(v:V)(S':St)(H':Hp)(_:C3 X pins S' H' s')(_:D7 v u)(_:P v H'):RP X pins P u s'
def SP(X:Cx)(pins:List (Nh×Obj))(D:A0H)(f:Flow)(s':Ni):Prop:=
 match f with
 |.next=>NP X pins D.nx s'
 |.brk=>NP X pins D.bk s'
 |.cont=>NP X pins D.ct s'
 |.ret u=>RP X pins D.rt u s'
def PE(X:Cx)(e:Expr)(t:TE):Prop:=
 ∀(pins:List (Nh×Obj))(s:Ni)(S:St)(H:Hp)(Q:VK),C3 X pins S H s->t S H Q->wpAny (model X.prog X.w) X.A (eval e X.env) (EP X pins S Q) X.xe s
def PT(X:Cx)(e:Expr)(t:TT):Prop:=
 ∀(pins:List (Nh×Obj))(s:Ni)(S:St)(H:Hp)(Q:Bool->Hp->Prop),C3 X pins S H s->t S H Q->wpAny (model X.prog X.w) X.A (isTrue e X.env (eval e X.env)) (TP X pins S Q) X.xe s
def PW(X:Cx)(e:Expr)(t:TT):Prop:=
 ∀(whole:Sem Nj)(pins:List (Nh×Obj))(s:Ni)(S:St)(H:Hp)(Q:Bool->Hp->Prop),C3 X pins S H s->t S H Q->wpAny (model X.prog X.w) X.A (isTrue e X.env whole) (TP X pins S Q) X.xe s
def PW.pt(h:PW X e t):PT X e t:=h _
def PA(X:Cx)(es:List Expr)(t:TA):Prop:=
 ∀(pos:Pos)(pins:List (Nh×Obj))(s:Ni)(S:St)(H:Hp)(Q:List V->Hp->Prop),C3 X pins S H s->t S H Q->wpAny (model X.prog X.w) X.A (spliced (backTo pos (starEach es X.env))) (AP X pins S Q) X.xe s
def PS(X:Cx)(st:Stmt)(t:TS):Prop:=
 ∀(pins:List (Nh×Obj))(s:Ni)(S:St)(H:Hp)(D:A0H),C3 X pins S H s->t D S H->wpAny (model X.prog X.w) X.A (exec st X.env) (SP X pins D) X.xe s
def PSs(X:Cx)(st:List Stmt)(t:TS):Prop:=
 ∀(pins:List (Nh×Obj))(s:Ni)(S:St)(H:Hp)(D:A0H),C3 X pins S H s->t D S H->wpAny (model X.prog X.w) X.A (execs st X.env) (SP X pins D) X.xe s
def J9{S:Type}{t:Sem S}{Q Q':S->Ni->Prop}(h:wpAny M A t Q E s)(hQ: ∀a s,Q a s->Q' a s):wpAny M A t Q' E s:=wpAny_mono h hQ λ_ _ x=>x
section
variable{X:Cx}
def bin(ha:PE X a ta)(hb:PE X b tb){pins:List (Nh×Obj)}{s:Ni}{J:St}{H:Hp}{R:V->V->Hp->Prop}(I:C3 X pins J H s)(h:ta J H λx H1=>tb J H1 λy H2=>R x y H2){S:Type}{Q:S->Ni->Prop}{f:Nj->Nj->Sem S}(hf: ∀v u s2 x y H2,C3 X pins J H2 s2->D7 x v->D7 y u->R x y H2->wpAny (model X.prog X.w) X.A (f v u) Q X.xe s2):
  wpAny (model X.prog X.w) X.A (eval a X.env) (λv s1'=>wpAny (model X.prog X.w) X.A (eval b X.env) (λu s2'=>wpAny (model X.prog X.w) X.A (f v u) Q X.xe s2') X.xe s1') X.xe s:=by
 refine J9 (ha pins s J H _ I h) λv s1 ⟨x,H1,I1,r1,q1⟩=>?_;refine J9 (hb pins s1 J H1 _ I1 q1) λu s2 ⟨y,H2,I2,r2,q2⟩=>?_;exact hf v u s2 x y H2 I2 r1 r2 q2
def B88(i:Nat):TE:=fun S H Q=>∃v,S[i]?=some (some v)/\Q v H
def tC(v:V):TE:=λ_ H Q=>Q v H
def B21{i:Nat}(hN:X.N[i]?=some x)(hv:Vis X.env.scope x) (hd: ~~~((x==("__debug__":Str))=false)) (hcd: ~~~((x==("__classdict__":Str))=false)):PE X (.Name x pos) (B88 i):=by
 intro pins s S H Q I h;obtain⟨v,e,h⟩:=h;obtain⟨m,hn,hl⟩:=I.loc;obtain⟨u,r,l⟩:=hl i x v hN e hv;have P3:EP X pins S Q u s:=⟨v,H,I,r,h⟩
 rcases l with⟨hk,hm⟩|⟨hk,c,hc,hcell⟩
 ·exact wpAny_Name (wpAny_loadName_local I.ok.kind hk hn hm P3) hd
 ·rcases hk with hk|hk
  ·exact wpAny_Name (wpAny_loadName_cell I.ok.kind hk hc hcell P3) hd
  ·exact wpAny_Name (wpAny_loadName_free I.ok.kind hk hc hcell P3 hcd) hd
def C2n{i j pos}:PE X (.Constant (.int i) j pos) (tC (.int i)):=λ_ _ _ H _ I h=>wpAny_Constant_int ⟨.int i,H,I.tok _,⟨_,rfl⟩,h⟩
def C4A{b j pos}:PE X (.Constant (.bool b) j pos) (tC (.bl b)):=λ_ _ _ H _ I h=>Constant_bool ⟨.bl b,H,I,rfl,h⟩
def C2l{j pos}:PE X (.Constant .none j pos) (tC .non):=λ_ _ _ H _ I h=>Constant_none ⟨.non,H,I,rfl,h⟩
def B7h{x j pos}:PE X (.Constant (.str x) j pos) (tC (.str x)):=λ_ _ _ H _ I h=>Calls.Constant_str ⟨.str x,H,I.tok _,⟨_,rfl⟩,h⟩
def Gl(X:Cx)(x:Str):Prop:=X.env.kindOf x=some .globalImplicit
def A5R(I:C3 X pins S H s)(hg:Gl X x)(hm:X.mg x=some u)(h:Q u s)
  (hd: ~~~((x==("__debug__":Str))=false)):wpAny (model X.prog X.w) X.A (eval (.Name x pos) X.env) Q E s:=
 Calls.Name_function_global I.ok.kind hg (Calls.loadGlobal_global (by rw[I.ok.glob];exact I.mod.glob.keeps I.bk) hm h) hd
def A4p(I:C3 X pins S H s)(hg:Gl X x)(hm:X.mg x=none)(hv:bootBuiltins x=some u)(h:Q u s)
  (hn: ~~~(x≠"__name__")) (hd: ~~~((x==("__debug__":Str))=false)):wpAny (model X.prog X.w) X.A (eval (.Name x pos) X.env) Q E s:=by
 obtain⟨mb,h1,h2⟩:=I.mod.blt;exact Calls.Name_function_global I.ok.kind hg (Calls.loadGlobal_builtin (by rw[I.ok.glob];exact I.mod.glob.keeps I.bk) hm (by rw[I.ok.blt];exact h1.keeps I.bk) ((h2 x hn).trans hv) h) hd
def B34(hg:Gl X x)(hm:X.mg x=some u)(r:D7 v u) (hd: ~~~((x==("__debug__":Str))=false)):PE X (.Name x pos) (tC v):=
 λ_ _ _ H _ I h=>A5R I hg hm ⟨v,H,I,r,h⟩ hd
variable{a b:Expr}{ta tb:TE}{pos:Pos}
def PC(X:Cx)(op:CmpOp)(a b:Expr)(t:TE):Prop:=
 ∀(pins:List (Nh×Obj))(s:Ni)(S:St)(H:Hp)(Q:VK),C3 X pins S H s->t S H Q->
  wpAny (model X.prog X.w) X.A (eval a X.env) (λv s1=>wpAny (model X.prog X.w) X.A (eval b X.env) (λu s2=>wpAny (model X.prog X.w) X.A (compareOp op v u) (EP X pins S Q) X.xe s2) X.xe s1) X.xe s
def B1u(b:Expr){op:CmpOp}(h:op≠ .In)(h2:op≠ .NotIn):behindInMarks op b=false:=by
 have e1:(op==CmpOp.In)=false:=by cases op<;>first|rfl|exact Gn rfl h
 have e2:(op==CmpOp.NotIn)=false:=by cases op<;>first|rfl|exact Gn rfl h2
 cases b<;>simp[behindInMarks,e1,e2]
def tB(t:TE):TT:=fun S H Q=>t S H λx H1=>∃c,x=.bl c/\Q c H1
def B7o{op:CmpOp}(h:PC X op a b t)(h1:behindInMarks op b=false:=by first|exact B1u _ (by decide) (by decide)|rfl):PE X (.Compare a [op] [b] pos) t:=λpins s S H Q I hw=>wpAny_Compare1 (h pins s S H Q I hw) h1
def B61{op:CmpOp}(h:PC X op a b t)(h1:behindInMarks op b=false:=by first|exact B1u _ (by decide) (by decide)|rfl):PT X (.Compare a [op] [b] pos) (tB t):=by intro pins s S H Q I hw;refine wpAny_isTrue_Compare1 (J9 (h pins s S H _ I hw) λv s1 h1=>J9 h1 λu s2 h2=>J9 h2 λc s3 ⟨x,H1,I1,r1,q1⟩=>?_) h1;obtain⟨d,rfl,q⟩:=q1;cases r1;exact wpAny_truthy_bool ⟨H1,I1,q⟩
def C15(h:PE X e t)(he: ∀whole,isTrue e X.env whole=(do let v <-whole;standAt e.pos;holding [v] (truthy v)):=by intro _;rfl):PT X e (tB t):=by intro pins s S H Q I hw;refine isTrue_plain (J9 (h pins s S H _ I hw) λv s1 ⟨x,H1,I1,r1,q1⟩=>?_) (he _);obtain⟨d,rfl,q⟩:=q1;cases r1;exact wpAny_truthy_bool ⟨H1,I1,q⟩
variable{tA tB':TT}{L3:List Expr}
def C4f(t u:TT):TT:=fun S H Q=>t S H λc H1=>if c=true then u S H1 Q else Q false H1
def tOr(t u:TT):TT:=fun S H Q=>t S H λc H1=>if c=true then Q true H1 else u S H1 Q
def C34(t:TT):TT:=fun S H Q=>t S H λc H1=>Q (!c) H1
def B9C(ha:PT X a tA):PW X (.BoolOp .And [a] pos) tA:=by
 intro wh pins s S H Q I h;refine isTrue_and (J9 (ha pins s S H Q I h) λc s1 e=>?_)
 cases c with
 |true=>exact isTrue_and_nil e
 |false=>exact e
def C13(ha:PT X a tA):PW X (.BoolOp .Or [a] pos) tA:=by
 intro wh pins s S H Q I h;refine isTrue_or (J9 (ha pins s S H Q I h) λc s1 e=>?_)
 cases c with
 |false=>exact isTrue_or_nil e
 |true=>exact e
def C14(ha:PT X a tA)(hb:PW X (.BoolOp .And (b::L3) pos) tB'):PW X (.BoolOp .And (a::b::L3) pos) (C4f tA tB'):=by
 intro wh pins s S H Q I h;refine isTrue_and (J9 (ha pins s S H _ I h) λc s1 ⟨H1,I1,q1⟩=>?_)
 cases c with
 |true=>exact hb wh pins s1 S H1 Q I1 q1
 |false=>exact⟨H1,I1,q1⟩
def C4u(ha:PT X a tA)(hb:PW X (.BoolOp .Or (b::L3) pos) tB'):PW X (.BoolOp .Or (a::b::L3) pos) (tOr tA tB'):=by
 intro wh pins s S H Q I h;refine isTrue_or (J9 (ha pins s S H _ I h) λc s1 ⟨H1,I1,q1⟩=>?_)
 cases c with
 |true=>exact⟨H1,I1,q1⟩
 |false=>exact hb wh pins s1 S H1 Q I1 q1
def C16(ha:PT X a tA):PT X (.UnaryOp .Not a pos) (C34 tA):=by intro pins s S H Q I h;exact isTrue_not (J9 (ha pins s S H (λc H1=>Q (!c) H1) I h) λ_ _ ⟨a,b,c⟩=>⟨a,b,c⟩)
def B6D(ta tb:TE):TE:=fun S H Q=>ta S H λx H1=>∃c,x=.bl c/\if c=true then tb S H1 Q else Q (.bl false) H1
def C1B(ta tb:TE):TE:=fun S H Q=>ta S H λx H1=>∃c,x=.bl c/\if c=true then Q (.bl true) H1 else tb S H1 Q
def B6z(ta:TE):TE:=fun S H Q=>ta S H λx H1=>∃c,x=.bl c/\Q (.bl (!c)) H1
def B7j{op}{t:TE}(h:PE X a t):PE X (.BoolOp op [a] pos) t:=λpins s S H Q I hw=>BoolOp_one (h pins s S H Q I hw)
def C2q(ha:PE X a ta)(hb:PE X (.BoolOp .And (b::L3) pos) tb):PE X (.BoolOp .And (a::b::L3) pos) (B6D ta tb):=by
 intro pins s S H Q I h;refine BoolOp_and (J9 (ha pins s S H _ I h) λv s1 ⟨x,H1,I1,r1,q1⟩=>?_);obtain⟨c,rfl,q1⟩:=q1;cases r1;refine wpAny_truthy_bool ?_
 cases c with
 |true=>exact hb pins s1 S H1 Q I1 q1
 |false=>exact⟨.bl false,H1,I1,rfl,q1⟩
def C4w(ha:PE X a ta)(hb:PE X (.BoolOp .Or (b::L3) pos) tb):PE X (.BoolOp .Or (a::b::L3) pos) (C1B ta tb):=by
 intro pins s S H Q I h;refine BoolOp_or (J9 (ha pins s S H _ I h) λv s1 ⟨x,H1,I1,r1,q1⟩=>?_);obtain⟨c,rfl,q1⟩:=q1;cases r1;refine wpAny_truthy_bool ?_
 cases c with
 |false=>exact hb pins s1 S H1 Q I1 q1
 |true=>exact⟨.bl true,H1,I1,rfl,q1⟩
def C2k(ha:PE X a ta):PE X (.UnaryOp .Not a pos) (B6z ta):=by intro pins s S H Q I h;refine UnaryOp_ (J9 (ha pins s S H _ I h) λv s1 ⟨x,H1,I1,r1,q1⟩=>?_);obtain⟨c,rfl,q1⟩:=q1;cases r1;exact not_of (wpAny_truthy_bool ⟨.bl (!c),H1,I1,rfl,q1⟩)
def tIf(t:TT)(ta tb:TE):TE:=fun S H Q=>t S H λc H1=>if c=true then ta S H1 Q else tb S H1 Q
def B7n(hc:PT X c tA)(ha:PE X a ta)(hb:PE X b tb):PE X (.IfExp c a b pos) (tIf tA ta tb):=by
 intro pins s S H Q I h;refine wpAny_IfExp (J9 (hc pins s S H _ I h) λd s1 ⟨H1,I1,q1⟩=>?_)
 cases d with
 |true=>exact ha pins s1 S H1 Q I1 q1
 |false=>exact hb pins s1 S H1 Q I1 q1
end
def SqL(K:Fg)(H:Hp)(a:Nh)(xs:List V):Prop:=
 Rd H a (.lst xs)\/
  ∃(o:Obj)(its:Array Nj)(n:Nat),K.lookup a=some o/\o.cls=.type "list"/\o.dict=none/\o.data=.seq its n/\its.size<=sizeLine/\C9 xs its.toList
def SqT(K:Fg)(H:Hp)(a:Nh)(xs:List V):Prop:=
 Rd H a (.tup xs)\/
  ∃(o:Obj)(its:Array Nj)(n:Nat),K.lookup a=some o/\o.cls=.type "tuple"/\o.data=.seq its n/\its.size<=sizeLine/\C9 xs its.toList
noncomputable def C8C:Nj->Option V
 |.none=>some .non
 |.bool b=>some (.bl b)
 |.int i _=>some (.int i)
 |.str x _=>some (.str x)
 |.bytes b _=>some (.byt b)
 |.float b _=>some (.flt b)
 |.ref a=>some (.ref a)
 |.type n=>some (.ty n)
 |_=>none
def D7.abs(r:D7 x u):C8C u=some x:=by
 cases x with
 |non=>cases r;rfl
 |bl _=>cases r;rfl
 |int _=>obtain⟨t,rfl⟩:=r;rfl
 |str _=>obtain⟨t,rfl⟩:=r;rfl
 |byt _=>obtain⟨t,rfl⟩:=r;rfl
 |flt _=>obtain⟨t,rfl⟩:=r;rfl
 |ref _=>cases r;rfl
 |ty _=>cases r;rfl
def D7.inj(r:D7 x u)(q:D7 y u):x=y:=Hf (r.abs.symm.trans q.abs)
theorem C9.inj: ∀{xs ys:List V}{us:List Nj},C9 xs us->C9 ys us->xs=ys
 |_,_,_,.nil,.nil=>rfl
 |_,_,_,.cons r t,.cons r' t'=>by rw[r.inj r',C9.inj t t']
section
variable{X:Cx}{pins:List (Nh×Obj)}{S:St}{H:Hp}{s:Ni}{a:Nh}{xs ys:List V}
def SqL.of{K:Fg}(h:H a=some (.lst xs)):SqL K H a xs:=.inl (.inl h)
def C3.list(I:C3 X pins S H s)(h:SqL X.K H a xs): ∃its:List Nj,C9 xs its/\PlainL s.heap a its.toArray/\xs.length<=sizeLine:=by
 rcases h with h|⟨o,its,n,hk,hc,hd,hs,hz,r⟩
 ·obtain⟨z,its,n,r,e⟩:=h.ok I.hok;exact⟨its,r,⟨_,n,e,rfl,rfl,rfl⟩,z⟩
 ·refine⟨its.toList,r,⟨o,n,I.kIn a o hk,hc,hd,by simpa using hs⟩,?_⟩;have e:=r.length;dsimp[Jw]at e
  lia
def C3.tuple(I:C3 X pins S H s)(h:SqT X.K H a xs): ∃its:List Nj,C9 xs its/\IsTup s.heap a its.toArray/\xs.length<=sizeLine:=by
 rcases h with h|⟨o,its,n,hk,hc,hs,hz,r⟩
 ·obtain⟨z,its,r,p⟩:=h.ok I.hok;exact⟨its,r,p,z⟩
 ·refine⟨its.toList,r,⟨o,I.kIn a o hk,hc,n,by simpa using hs⟩,?_⟩;have e:=r.length;dsimp[Jw]at e
  lia
def C3.list_inj(I:C3 X pins S H s)(h:SqL X.K H a xs)(h':SqL X.K H a ys):xs=ys:=by
 obtain⟨its,r,⟨o,n,e,_,_,d⟩,_⟩:=I.list h;obtain⟨its',r',⟨o',n',e',_,_,d'⟩,_⟩:=I.list h';rw[e]at e';cases e';rw[d]at d';injection d' with d1 _;have:its=its':=by simpa using Hm Array.toList d1
 subst this;exact r.inj r'
def C3.tuple_inj(I:C3 X pins S H s)(h:SqT X.K H a xs)(h':SqT X.K H a ys):xs=ys:=by
 obtain⟨its,r,⟨o,e,_,n,d⟩,_⟩:=I.tuple h;obtain⟨its',r',⟨o',e',_,n',d'⟩,_⟩:=I.tuple h';rw[e]at e';cases e';rw[d]at d';injection d' with d1 _;have:its=its':=by simpa using Hm Array.toList d1
 subst this;exact r.inj r'
end
abbrev Cx.wish(X:Cx)(E:Nj->Ni->Prop):Cx:={X with xe:=E}
abbrev Cx.nox(X:Cx):Cx:=X.wish λ_ _=>False
def Cx.Ok.wish{X:Cx}(ok:X.Ok)(E:Nj->Ni->Prop):(X.wish E).Ok:=
 ⟨ok.mod,ok.kind,ok.glob,ok.blt,ok.above,ok.inj,ok.has,ok.cab,ok.hd,ok.frames,ok.stk,ok.exf,ok.bs,ok.bsz,ok.noex,ok.exfs,ok.funs,ok.frf⟩
def Cx.Ok.unwish{X:Cx}{E:Nj->Ni->Prop}(ok:(X.wish E).Ok):X.Ok:=
 ⟨ok.mod,ok.kind,ok.glob,ok.blt,ok.above,ok.inj,ok.has,ok.cab,ok.hd,ok.frames,ok.stk,ok.exf,ok.bs,ok.bsz,ok.noex,ok.exfs,ok.funs,ok.frf⟩
section
variable{X:Cx}{pins:List (Nh×Obj)}{S:St}{H:Hp}{s:Ni}{E:Nj->Ni->Prop}
def C3.wish(I:C3 X pins S H s)(E:Nj->Ni->Prop):C3 (X.wish E) pins S H s:=⟨I.ok.wish E,I.os,I.bare,I.base,I.loc,I.cell,I.free,I.freeC,I.pin,I.hok,I.len⟩
def C3.unwish(I:C3 (X.wish E) pins S H s):C3 X pins S H s:=⟨I.ok.unwish,I.os,I.bare,I.base,I.loc,I.cell,I.free,I.freeC,I.pin,I.hok,I.len⟩
def SP.unwish{f:Flow}(h:SP (X.wish E) pins D f s'):SP X pins D f s':=by
 cases f with
 |next=>obtain⟨S',H',I,q⟩:=h;exact⟨S',H',I.unwish,q⟩
 |brk=>obtain⟨S',H',I,q⟩:=h;exact⟨S',H',I.unwish,q⟩
 |cont=>obtain⟨S',H',I,q⟩:=h;exact⟨S',H',I.unwish,q⟩
 |ret u=>obtain⟨v,S',H',I,r,q⟩:=h;exact⟨v,S',H',I.unwish,r,q⟩
def PSs.nox{st:List Stmt}(h:PSs X.nox st t):PSs X st t:=λpins s S H D I hw=>
 wpAny_mono (h pins s S H D (I.wish _) hw) (λ_ _ q=>q.unwish) λ_ _ z=>Ik z
end
section
variable{X:Cx}{st:Stmt}{L3:List Stmt}{t u:TS}{e:Expr}{te:TE}{pos:Pos}
def C0T:TS:=λD S H=>D.nx S H
def C3Z(t u:TS):TS:=λD S H=>t {D with nx:=u D} S H
def B9H:PSs X [] C0T:=λ_ _ S H _ I h=>wpAny_execs_nil ⟨S,H,I,h⟩
def B69(h1:PS X st t)(h2:PSs X L3 u):PSs X (st::L3) (C3Z t u):=by
 intro pins s S H D I h;refine wpAny_execs_cons (J9 (h1 pins s S H {D with nx:=u D} I h) λf s1 q=>?_)
 cases f with
 |next=>obtain⟨S',H',I',q⟩:=q;exact h2 pins s1 S' H' D I' q
 |ret v=>exact q
 |brk=>exact q
 |cont=>exact q
def C3.quiet(I:C3 X pins S H s):interactive X.env=false:=by simp[interactive,I.ok.kind]
def C0V(te:TE):TS:=λD S H=>te S H λ_ H1=>D.nx S H1
def B9J(he:PE X e te)(hs:⇑(swapsWith e none pos.line X.env=pure false)):PS X (.Expr e pos) (C0V te):=by intro pins s S H D I h;exact wpAny_Expr_any (J9 (he pins s S H _ I h) λv s1 ⟨x,H1,I1,r1,q1⟩=>⟨S,H1,I1,q1⟩) I.quiet hs
def C30(te:TE):TS:=λD S H=>te S H D.rt
def C18(he:PE X e te):PS X (.Return (some e) pos) (C30 te):=by intro pins s S H D I h;exact wpAny_Return_some (J9 (he pins s S H _ I h) λv s1 ⟨x,H1,I1,r1,q1⟩=>⟨x,S,H1,I1,r1,q1⟩)
def C0S:TS:=λD _ H=>D.rt .non H
def B9I:PS X (.Return none pos) C0S:=λ_ _ S H _ I h=>wpAny_Return_none ⟨.non,S,H,I,rfl,h⟩
def C4a(c:TT)(t u:TS):TS:=λD S H=>c S H λb H1=>if b=true then t D S H1 else u D S H1
def C4v{a b:List Stmt}(hc:PT X c tc)(ha:PSs X a t)(hb:PSs X b u):PS X (.If c a b pos) (C4a tc t u):=by
 intro pins s S H D I h;refine wpAny_If (J9 (hc pins s S H _ I h) λd s1 ⟨H1,I1,q1⟩=>?_)
 cases d with
 |true=>exact ha pins s1 S H1 D I1 q1
 |false=>exact hb pins s1 S H1 D I1 q1
end
abbrev TG:=V->St->Hp->(St->Hp->Prop)->Prop
abbrev TGs:=List V->St->Hp->(St->Hp->Prop)->Prop
def PG(X:Cx)(target:Expr)(t:TG):Prop:=
 ∀(pins:List (Nh×Obj))(s:Ni)(S:St)(H:Hp)(v:V)(u:Nj)(Q:St->Hp->Prop),C3 X pins S H s->D7 v u->t v S H Q->
  wpAny (model X.prog X.w) X.A (assign target X.env u) (λ_=>NP X pins Q) X.xe s
def PGs(X:Cx)(ts:List Expr)(t:TGs):Prop:=
 ∀(pins:List (Nh×Obj))(s:Ni)(S:St)(H:Hp)(vs:List V)(us:List Nj)(Q:St->Hp->Prop),C3 X pins S H s->C9 vs us->t vs S H Q->
  wpAny (model X.prog X.w) X.A (assignInOrder ((assignEach ts X.env).map (·.2)) us) (λ_=>NP X pins Q) X.xe s
abbrev C3t:=V->V->V->Hp->(Hp->Prop)->Prop
def C5x(X:Cx)(t:C3t):Prop:=
 ∀(pins:List (Nh×Obj))(s:Ni)(S:St)(H:Hp)(o i v:V)(ov iv u:Nj)(Q:Hp->Prop),C3 X pins S H s->D7 o ov->D7 i iv->D7 v u->t o i v H Q->
  wpAny (model X.prog X.w) X.A (setItem ov iv u) (λ_ s'=>∃H',C3 X pins S H' s'/\Q H') X.xe s
section
variable{X:Cx}{pos:Pos}
def Y4(i:Nat):TG:=λv S H Q=>Q (S.set i (some v)) H
def B33{i:Nat}(hN:X.N.Nodup)(hi:X.N[i]?=some x)(hx:Loc X.env.scope x)(hf:X.fn x=true\/X.env.scope.names.lookup x=some .local:=by first|exact .inl rfl|exact .inr rfl|assumption):PG X (.Name x pos) (Y4 i):=by intro pins s S H v u Q I r h;exact wpAny_assign_Name (B00 I hN hi hx r (λs' I'=>⟨_,H,I',h⟩) hf)
def C5n:TGs:=λvs S H Q=>vs=[]/\Q S H
def B76(t:TG)(u:TGs):TGs:=λvs S H Q=>∃v r,vs=v::r/\t v S H fun S' H'=>u r S' H' Q
def B9O:PGs X [] C5n:=by intro pins s S H vs us Q I r h;obtain⟨e,h⟩:=h;subst e;cases r;exact assignInOrder_nil ⟨S,H,I,h⟩
def B1n{u:TGs}(h1:PG X e t)(h2:PGs X es u)(hs:⇑((assignEach (e::es) X.env).map (·.2)=assign e X.env::(assignEach es X.env).map (·.2))):PGs X (e::es) (B76 t u):=by
 intro pins s S H vs us Q I r h;obtain⟨v,vr,e1,h⟩:=h;subst e1
 cases r with
 |cons r rr=>rw[hs];refine assignInOrder_cons (J9 (h1 pins s S H _ _ _ I r h) λ_ s1 ⟨S1,H1,I1,q1⟩=>?_);exact h2 pins s1 S1 H1 _ _ Q I1 rr q1
def C5l(K:Fg)(n:Nat)(t:TGs):TG:=λv S H Q=>∃a xs,v=.ref a/\SqT K H a xs/\xs.length=n/\t xs S H Q
def C2h{k:Nat}{t:TGs}{n:Nat}(hc:X.calm=true)(h:PGs X es t)(hn:⇑((assignEach es X.env).length=n))(hst:⇑((assignEach es X.env).findIdx? (·.1)=none)):PG X (.Tuple es k pos) (C5l X.K n t):=by
 intro pins s S H v u Q I r hw;obtain⟨a,xs,e1,hq,hl,hw⟩:=hw;subst e1;cases r;obtain⟨its,rv,ht,hz⟩:=I.tuple hq;refine assign_Tuple_tuple (I.ok.hd hc) ht (by simp[hn,<-hl,rv.length]) hst λh' hx=>?_;have I1:C3 X pins S H {s with heap:=h'}:=I.kept (t':=s.toks) λb o e=>hx b o (Hn (Gu e)) e;exact h pins _ S H xs _ Q I1 (by simpa using rv) hw
def C5m(to ti:TE)(t:C3t):TG:=λv S H Q=>to S H λo H1=>ti S H1 λi H2=>t o i v H2 λH3=>Q S H3
def C2i{t:C3t}(ho:PE X o to)(hi:PE X i ti)(hs:C5x X t)(ha: ∀v,assign (.Subscript o i pos) X.env v=(do
   let ov <-holding [v] (eval o X.env);let iv <-holding [v,ov] (eval i X.env)
   standAt pos
   holding [v,ov,iv] (setItem ov iv v)
   release [v,ov,iv] []):=by intro _;rfl):PG X (.Subscript o i pos) (C5m to ti t):=by
 intro pins s S H v u Q I r h;rw[ha];refine Gc (wpAny_holding (J9 (ho pins s S H _ I h) λov s1 ⟨x,H1,I1,r1,q1⟩=>?_));refine Gc (wpAny_holding (J9 (hi pins s1 S H1 _ I1 q1) λiv s2 ⟨y,H2,I2,r2,q2⟩=>?_));refine Gc (wpAny_standAt (Gc (wpAny_holding (J9 (hs pins s2 S H2 x y v ov iv u _ I2 r1 r2 r q2) λ_ s3 ⟨H3,I3,q3⟩=>?_))));exact wpAny_release ⟨S,H3,I3,q3⟩
def B4W(te:TE)(g:TG):TS:=λD S H=>te S H λx H1=>g x S H1 D.nx
def C2b(he:PE X e te)(hg:PG X tg g)(hs:⇑(swapsWithSole [tg] e pos.line X.env=pure false))(hw:⇑(swappedStores [tg] e X.env=pure none))(h1:⇑((assignEach [tg] X.env).map (·.2)=[assign tg X.env])):PS X (.Assign [tg] e pos) (B4W te g):=by
 intro pins s S H D I h;refine wpAny_Assign_stores (J9 (he pins s S H _ I h) λv s1 ⟨x,H1,I1,r1,q1⟩=>?_) hs hw;rw[h1];exact J9 (hg pins s1 S H1 x v _ I1 r1 q1) λ_ s2 q=>q
def C17{i:Nat}(hN:X.N.Nodup)(hi:X.N[i]?=some x)(hx:Loc X.env.scope x)(he:PE X e te)(hs:⇑(swapsWith e (some (.Name x pos')) pos.line X.env=pure false))(hf:X.fn x=true\/X.env.scope.names.lookup x=some .local:=by first|exact .inl rfl|exact .inr rfl|assumption):
  PS X (.Assign [.Name x pos'] e pos) (B4W te (Y4 i)):=by
 intro pins s S H D I h;refine wpAny_Assign_Name (J9 (he pins s S H _ I h) λv s1 ⟨y,H1,I1,r1,q1⟩=>?_) hs;exact B00 I1 hN hi hx r1 (λs2 I2=>⟨_,H1,I2,q1⟩) hf
def B2P(c:TT)(tb:TS):TS:=λD S H=>∃W:Nat->St->Hp->Prop,(∃m,W m S H)/\∀m S H,W m S H->
 c S H λb H1=>if b=true then ∃N:St->Hp->Prop,(∀S' H',N S' H'->∃m',m'<m/\W m' S' H')/\tb {D with nx:=N,ct:=N,bk:=D.nx} S H1 else D.nx S H1
def B7a{body:List Stmt}(hp:PassesOwn (model X.prog X.w) X.A X.env X.xe)(hc:PT X c tc)(hb:PSs X body tb):PS X (.While c body [] pos) (B2P tc tb):=by
 intro pins s S H D I h;obtain⟨W,⟨m0,w0⟩,turn⟩:=h;refine wpAny_While (codeAny_whileLoop (λn=>NP X pins (W n)) ?_ m0 ⟨S,H,I,w0⟩);rintro n s1 ⟨S1,H1,I1,w1⟩;refine wpAny_passesOwn hp (J9 (hc pins s1 S1 H1 _ I1 (turn n S1 H1 w1)) λb s2 ⟨H2,I2,q2⟩=>?_)
 cases b with
 |true=>
  obtain⟨N,hN,q2⟩:=q2;rw[Gf rfl];refine wpAny_passesOwn hp (J9 (hb pins s2 S1 H2 _ I2 q2) λf s3 q3=>?_)
  cases f with
  |next=>obtain⟨S3,H3,I3,n3⟩:=q3;obtain⟨m',hm,w3⟩:=hN S3 H3 n3;exact⟨m',hm,S3,H3,I3,w3⟩
  |cont=>obtain⟨S3,H3,I3,n3⟩:=q3;obtain⟨m',hm,w3⟩:=hN S3 H3 n3;exact⟨m',hm,S3,H3,I3,w3⟩
  |brk=>exact q3
  |ret v=>exact q3
 |false=>rw[Gd Gs];exact wpAny_execs_nil ⟨S1,H2,I2,q2⟩
end
structure It where
 go:Nat->Hp->Prop
 yld:Nat->Hp->V->Hp->Prop
 stop:Nat->Hp->Prop
def A7v(X:Cx)(pins:List (Nh×Obj))(H:Hp)(b:Nh):Prop:=
 H b=none/\b≠X.env.locals/\b∉X.fs/\(b∈X.ex\/X.s_0.heap.objs.size<=b)/\(∀x c,X.env.cells.lookup x=some c->c≠b)/\∀p∈X.pn++pins,p.1≠b
def C3.fpOk(I:C3 X pins S H s)(hb:s.heap.objs.size<=b)(hn:H' b=none):A7v X pins H' b:=by
 refine⟨hn,Jj (Gv I.lt hb),I.nofs hb,.inr (Hc I.sz hb),λx c e z=>?_,λp hp z=>?_⟩
 ·obtain⟨v,q⟩:=I.cell x c e;exact Gn (Gv q.lt (by rw[z];exact hb)) (Ie _)
 ·exact Gn (Gv (Gu (I.pin p hp).1) (by rw[z];exact hb)) (Ie _)
structure B3G(P:Nk)(w:World)(K:Fg)(tg:Expr)(J:It)(fp:List Nh)(it:Nh)(tn:Nat->Heap->Prop):Prop where
 mem:it∈fp
 obj: ∀i h,tn i h->∀b∈fp,∃o,h.get? b=some o/\∀v,o.data≠ .cell v
 keep: ∀i h h',tn i h->(∀b∈fp,∀o,h.get? b=some o->h'.get? b=some o)->tn i h'
 item: ∀(X:Cx),X.prog=P->X.w=w->X.K=K->X.calm=true->∀(i:Nat)(pins:List (Nh×Obj))(s:Ni)(S:St)(H:Hp)(E:Nj->Ni->Prop),C3 X pins S H s->(∀b∈fp,A7v X pins H b)->tn i s.heap->J.go i H->
  wpAny (model P w) X.A (pyNext (.ref it)) (λr s1=>∃u,r=some u/\
   wpAny (model P w) X.A (letOwnedTupleGo tg (.ref it) u) (λ_ s2=>∃x H',C3 X pins S H' s2/\D7 x u/\J.yld i H x H'/\tn (i+1) s2.heap/\∀b∈fp,H' b=none) E s1) E s
 done: ∀(X:Cx),X.prog=P->X.w=w->X.K=K->X.calm=true->∀(i:Nat)(pins:List (Nh×Obj))(s:Ni)(S:St)(H:Hp)(E:Nj->Ni->Prop),C3 X pins S H s->(∀b∈fp,A7v X pins H b)->tn i s.heap->J.stop i H->
  wpAny (model P w) X.A (pyNext (.ref it)) (λr s1=>r=none/\C3 X pins S H s1) E s
 self: ∀(A:Around)(i:Nat)(s:Ni)(Q:Nj->Ni->Prop)(E:Nj->Ni->Prop),tn i s.heap->Q (.ref it) s->wpAny (model P w) A (pyIter (.ref it)) Q E s
abbrev TI:=St->Hp->(It->Hp->Prop)->Prop
inductive PIE(X:Cx)(pins:List (Nh×Obj))(S:St)(tg:Expr)(R:It->Hp->Prop)(itv:Nj)(s2:Ni):Prop
 |mk(it:Nh)(fp:List Nh)(tn:Nat->Heap->Prop)(J:It)(H':Hp)(_:itv=.ref it)(_:C3 X pins S H' s2)(_:B3G X.prog X.w X.K tg J fp it tn)(_:tn 0 s2.heap)(_: ∀b∈fp,A7v X pins H' b)(_:R J H'):PIE X pins S tg R itv s2
def PI(X:Cx)(tg iter:Expr)(wi:TI):Prop:=
 ∀(pins:List (Nh×Obj))(s:Ni)(S:St)(H:Hp)(R:It->Hp->Prop),C3 X pins S H s->wi S H R->
  wpAny (model X.prog X.w) X.A (eval iter X.env) (λv s1=>wpAny (model X.prog X.w) X.A (pyIter v) (PIE X pins S tg R) X.xe s1) X.xe s
def B4r{n:String}{vs:Array Nj}{Q:Unit->Ni->Prop}(ho:s.heap.get? it=some o)(hc:o.cls=.type n)(hd:o.data=.fields vs)
  (hn:["enumerate","zip","dict_itemiterator","dict_reverseitemiterator","odict_iterator","itertools.zip_longest","itertools.pairwise"].contains n=false) (hQ:Q () s):wpAny M A (letOwnedTupleGo tg (.ref it) u) Q E s:=by
 unfold letOwnedTupleGo
 cases tg<;>first
  |exact Gx hQ
  |(cases u<;>first|exact Gx hQ|(refine Gc (wpAny_load ho ?_);rw[hc,hd];show wpAny M A (if(["enumerate","zip","dict_itemiterator","dict_reverseitemiterator","odict_iterator","itertools.zip_longest","itertools.pairwise"].contains n&&vs[0]?==some (rawInt _))=true then _ else _) Q E s;rw[Gd (by intro h;rw[hn,Bool.false_and]at h;cases h)];exact Gx hQ))
def Itl(K:Fg)(a:Nh):It:=
 ⟨λi H=>∃xs x,SqL K H a xs/\xs[i]?=some x,λi H x H'=>H'=H/\∀xs,SqL K H a xs->xs[i]?=some x,λi H=>∃xs,SqL K H a xs/\xs.length<=i⟩
def Itt(K:Fg)(a:Nh):It:=
 ⟨λi H=>∃xs x,SqT K H a xs/\xs[i]?=some x,λi H x H'=>H'=H/\∀xs,SqT K H a xs->xs[i]?=some x,λi H=>∃xs,SqT K H a xs/\xs.length<=i⟩
def Itr(lo:Int)(n:Nat):It:=⟨λi _=>i<n,λi H x H'=>H'=H/\x=.int (lo+i),λi _=>n<=i⟩
def B4T{P:Nk}{w:World}{K:Fg}{tg:Expr}(a it:Nh):B3G P w K tg (Itl K a) [it] it (λi h=>h.IsListIter it a i) where
 mem:=by simp
 obj:=λi h st b hb=>by
  have e:b=it:=by simpa using hb
  subst e;obtain⟨o,e,c,d⟩:=st;exact⟨o,e,λv z=>by rw[d]at z;cases z⟩
 keep:=λi h h' st k=>st.at λo e=>k it (by simp) o e
 item:=by intro X hP hw hK hc i pins s S H E I hf st hg;subst hP hw hK;obtain⟨xs,x,hq,hx⟩:=hg;obtain⟨its,rv,p,hz⟩:=I.list hq;obtain⟨u,hu,ru⟩:=rv.get hx;obtain⟨f0,f1,f2,f3,f4,f5⟩:=hf it (by simp);refine wpAny_pyNext_list_item st p.isList (x:=u) (by simpa using hu) λh' st' sb=>?_;have I1:C3 X pins S H {s with heap:=h'}:=I.turned (t':=s.toks) (λb o hb e=>(sb.2 b hb).trans e) f0 f1 f3 f4 f5;obtain⟨o,e,c,d⟩:=id st';exact⟨u,rfl,B4r (s:={s with heap:=h'}) e c d (by decide) ⟨x,H,I1,ru,⟨rfl,λys hy=>by rw[I.list_inj hy hq];exact hx⟩,st',λb hb=>(hf b hb).1⟩⟩
 done:=by intro X hP hw hK hc i pins s S H E I hf st hg;subst hP hw hK;obtain⟨xs,hq,hx⟩:=hg;obtain⟨its,rv,p,hz⟩:=I.list hq;obtain⟨f0,f1,f2,f3,f4,f5⟩:=hf it (by simp);have hl:=rv.length;exact wpAny_pyNext_list_end (I.ok.hd hc) st p.isList (by simp;lia) λh' eb=>⟨rfl,I.turned (t':=s.toks) (λb o hb e=>eb b o hb e) f0 f1 f3 f4 f5⟩
 self:=λ_ _ _ _ _ st h=>wpAny_pyIter_listiter st h
def B2L{P:Nk}{w:World}{K:Fg}{tg:Expr}(a it:Nh):B3G P w K tg (Itt K a) [it] it (λi h=>h.IsTupleIter it a i) where
 mem:=by simp
 obj:=λi h st b hb=>by
  have e:b=it:=by simpa using hb
  subst e;obtain⟨o,e,c,d⟩:=st;exact⟨o,e,λv z=>by rw[d]at z;cases z⟩
 keep:=λi h h' st k=>st.at λo e=>k it (by simp) o e
 item:=by intro X hP hw hK hc i pins s S H E I hf st hg;subst hP hw hK;obtain⟨xs,x,hq,hx⟩:=hg;obtain⟨its,rv,p,hz⟩:=I.tuple hq;obtain⟨u,hu,ru⟩:=rv.get hx;obtain⟨f0,f1,f2,f3,f4,f5⟩:=hf it (by simp);refine wpAny_pyNext_tuple_item st (show s.heap.IsTuple a its.toArray from p) (x:=u) (by simpa using hu) λh' st' sb=>?_;have I1:C3 X pins S H {s with heap:=h'}:=I.turned (t':=s.toks) (λb o hb e=>(sb.2 b hb).trans e) f0 f1 f3 f4 f5;obtain⟨o,e,c,d⟩:=id st';exact⟨u,rfl,B4r (s:={s with heap:=h'}) e c d (by decide) ⟨x,H,I1,ru,⟨rfl,λys hy=>by rw[I.tuple_inj hy hq];exact hx⟩,st',λb hb=>(hf b hb).1⟩⟩
 done:=by intro X hP hw hK hc i pins s S H E I hf st hg;subst hP hw hK;obtain⟨xs,hq,hx⟩:=hg;obtain⟨its,rv,p,hz⟩:=I.tuple hq;obtain⟨f0,f1,f2,f3,f4,f5⟩:=hf it (by simp);have hl:=rv.length;exact wpAny_pyNext_tuple_end (I.ok.hd hc) st (show s.heap.IsTuple a its.toArray from p) (by simp;lia) λh' eb=>⟨rfl,I.turned (t':=s.toks) (λb o hb e=>eb b o hb e) f0 f1 f3 f4 f5⟩
 self:=λ_ _ _ _ _ st h=>wpAny_pyIter_tupleiter st h
def B2M{P:Nk}{w:World}{K:Fg}{tg:Expr}(it:Nh)(lo:Int)(n:Nat):B3G P w K tg (Itr lo n) [it] it (λi h=>IsRangeIter h it (lo+(i:Nat)*1) ((n:Int) - (i:Nat)) 1) where
 mem:=by simp
 obj:=λi h st b hb=>by
  have e:b=it:=by simpa using hb
  subst e;exact⟨_,st,λv z=>by have z':Data.fields _=Data.cell v:=z;cases z'⟩
 keep:=λi h h' st k=>k it (by simp) _ st
 item:=by intro X hP hw hK hc i pins s S H E I hf st hg;subst hP hw hK;obtain⟨f0,f1,f2,f3,f4,f5⟩:=hf it (by simp);have W:=Walks.range (prog:=X.prog) (w:=X.w) (I.ok.hd hc) it lo 1 n;refine W.item i s _ _ hg st λv h' tk hv st' kk=>?_;obtain⟨t,rfl⟩:=hv;have I1:C3 X pins S H {s with heap:=h',toks:=tk}:=I.turned (λb o hb e=>kk b o (by simpa using hb) e) f0 f1 f3 f4 f5;refine⟨_,rfl,B4r (s:={s with heap:=h',toks:=tk}) (n:="range_iterator") st' rfl rfl (by decide) ⟨.int (lo+i),H,I1,⟨t,?_⟩,⟨rfl,rfl⟩,st',λb hb=>(hf b hb).1⟩⟩;rw[Int.mul_one]
 done:=by intro X hP hw hK hc i pins s S H E I hf st hg;subst hP hw hK;obtain⟨f0,f1,f2,f3,f4,f5⟩:=hf it (by simp);exact wpAny_pyNext_range_end (I.ok.hd hc) st (by have:n<=i:=hg;lia) λh' eb=>⟨rfl,I.turned (t':=s.toks) (λb o hb e=>eb b o hb e) f0 f1 f3 f4 f5⟩
 self:=λ_ _ _ _ _ st h=>wpAny_pyIter_rangeiter st h
section
variable{X:Cx}{tg:Expr}
def C5g(K:Fg)(tl:TE):TI:=fun S H R=>tl S H λx H1=>∃a,x=.ref a/\(∃xs,SqL K H1 a xs)/\R (Itl K a) H1
def C7S(K:Fg)(tl:TE):TI:=fun S H R=>tl S H λx H1=>∃a,x=.ref a/\(∃xs,SqT K H1 a xs)/\R (Itt K a) H1
def B9N{l:Expr}{tl:TE}(hl:PE X l tl):PI X tg l (C5g X.K tl):=by
 intro pins s S H R I h;refine J9 (hl pins s S H _ I h) λv s1 ⟨x,H1,I1,r1,q1⟩=>?_;obtain⟨a,e,⟨xs,hq⟩,q⟩:=q1;subst e;cases r1;obtain⟨its,rv,p,hz⟩:=I1.list hq;refine wpAny_pyIter_list p.isList ?_;refine⟨s1.heap.objs.size,[s1.heap.objs.size],_,_,H1,rfl,I1.kept (t':=s1.toks) λb o e=>Gj _ e,B4T a _,⟨_,Hb _ rfl,rfl,rfl⟩,λb hb=>?_,q⟩;have e:b=s1.heap.objs.size:=by simpa using hb
 subst e;exact I1.fpOk (Gi _) (I1.hok.fresh (Gi _))
def B7d{l:Expr}{tl:TE}(hl:PE X l tl):PI X tg l (C7S X.K tl):=by
 intro pins s S H R I h;refine J9 (hl pins s S H _ I h) λv s1 ⟨x,H1,I1,r1,q1⟩=>?_;obtain⟨a,e,⟨xs,hq⟩,q⟩:=q1;subst e;cases r1;obtain⟨its,rv,p,hz⟩:=I1.tuple hq;refine wpAny_pyIter_tuple (show s1.heap.IsTuple a its.toArray from p) ?_;refine⟨s1.heap.objs.size,[s1.heap.objs.size],_,_,H1,rfl,I1.kept (t':=s1.toks) λb o e=>Gj _ e,B2L a _,⟨_,Hb _ rfl,rfl,rfl⟩,λb hb=>?_,q⟩;have e:b=s1.heap.objs.size:=by simpa using hb
 subst e;exact I1.fpOk (Gi _) (I1.hok.fresh (Gi _))
def B6Y{R:It->Hp->Prop}{lo hi:Int}{t u v:Tok}{tk:Nat}(I:C3 X pins S H s)(h1: -(2^62)<=lo)(h2:lo<2^62)(h3: -(2^62)<=hi)(h4:hi<2^62)(q:R (Itr lo (hi -lo).toNat) H):wpAny (model X.prog X.w) X.A (pyIter (.ref s.heap.objs.size)) (PIE X pins S tg R) E {s with heap:=s.heap.push {cls:=.type "range",data:=.fields #[.int lo t,.int hi u,.int 1 v]},toks:=tk}:=by
 refine wpAny_pyIter_range (IsRange.new ..) (small_one h1 h2 h3 h4) ?_;have I1:C3 X pins S H {s with heap:=s.heap.push {cls:=.type "range",data:=.fields #[.int lo t,.int hi u,.int 1 v]},toks:=tk}:=I.kept λb o e=>Gj _ e
 refine⟨(s.heap.push {cls:=.type "range",data:=.fields #[.int lo t,.int hi u,.int 1 v]}).objs.size,[(s.heap.push {cls:=.type "range",data:=.fields #[.int lo t,.int hi u,.int 1 v]}).objs.size],_,_,H,rfl,
  I1.kept (t':=tk) λb o e=>Gj _ e,B2M _ lo (hi -lo).toNat,?_,λb hb=>?_,q⟩
 ·have e1:lo+((0:Nat):Int)*1=lo:=by simp
  have e2:(((hi -lo).toNat:Nat):Int) - ((0:Nat):Int)=Builtin.Range.rangeSize lo hi 1:=by rw[rangeSize_one];split<;>lia
  show IsRangeIter _ _ (lo+((0:Nat):Int)*1) ((((hi -lo).toNat:Nat):Int) - ((0:Nat):Int)) 1;rw[e1,e2];exact Hb _ rfl
 ·have e:b=(s.heap.push {cls:=.type "range",data:=.fields #[.int lo t,.int hi u,.int 1 v]}).objs.size:=by simpa using hb
  subst e;exact I1.fpOk (Gi _) (I1.hok.fresh (Gi _))
def C1c(ta:TA):TI:=fun S H R=>ta S H λvs H1=>∃j:Int,vs=[.int j]/\ -(2^62)<=j/\j<2^62/\R (Itr 0 j.toNat) H1
def B47 (hg:Gl X "range") (hm:X.mg "range"=none) (ha:PA X [a] ta) (hs:⇑(starEach [a] X.env=[(false,eval a X.env)])):PI X tg (.Call (.Name "range" p) [a] [] pos) (C1c ta):=by
 intro pins s S H R I h;refine Call_ (A4p I hg hm boot_range (PyProof.Rows.callWith_type1 (J9 (ha pos pins s S H _ I h) λus s1 ⟨vs,H1,I1,r1,q1⟩=>?_) hs rfl));obtain⟨j,e,q1,q2,q⟩:=q1;subst e
 cases r1 with
 |cons r rr=>cases rr;obtain⟨t,rfl⟩:=r;exact call_range_1 (B6Y I1 (by lia) (by lia) q1 q2 (by simpa using q))
def C4b(wi:TI)(g:TG)(tb:TS):TS:=λD S H=>wi S H λJ H1=>∃W:Nat->Nat->St->Hp->Prop,(∃m,W 0 m S H1)/\∀i m S H,W i m S H->
 (J.stop i H/\D.nx S H)\/(J.go i H/\∃N:St->Hp->Prop,(∀S' H',N S' H'->∃m',m'<m/\W (i+1) m' S' H')/\∀x H',J.yld i H x H'->g x S H' fun S2 H2=>tb {D with nx:=N,ct:=N,bk:=D.nx} S2 H2)
def A6g(fp:List Nh)(h:Heap):List (Nh×Obj):=fp.filterMap λb=>(h.get? b).map λo=>(b,o)
def A23(hb:b∈fp)(e:h.get? b=some o):(b,o)∈A6g fp h:=List.mem_filterMap.mpr ⟨b,hb,by rw[e];rfl⟩
def B5b{p:Nh×Obj}(hp:p∈A6g fp h):p.1∈fp/\h.get? p.1=some p.2:=by
 obtain⟨b,hb,e⟩:=List.mem_filterMap.mp hp
 cases q:h.get? b with
 |none=>rw[q]at e;cases e
 |some o=>rw[q]at e;have e':(b,o)=p:=Hf e;subst e';exact⟨hb,q⟩
def C3.pinned(I:C3 X pins S H s)(hf: ∀b∈fp,A7v X pins H b)(ho: ∀b∈fp,∃o,s.heap.get? b=some o/\∀v,o.data≠ .cell v):C3 X (pins++A6g fp s.heap) S H s:=
 I.pins_of λp hp=>(Gp.mp hp).elim (λz=>I.pin p (Hy _ z)) λz=>by obtain⟨hb,e⟩:=B5b z;obtain⟨f0,f1,f2,_⟩:=hf p.1 hb;obtain⟨o,e',d⟩:=ho p.1 hb;rw[e]at e';cases e';exact⟨e,f0,f1,f2,d⟩
def C3.unpinned(I:C3 X (pins++pl) S H s):C3 X pins S H s:=I.pins_of λp hp=>I.pin p (Hy _ (List.mem_append_left _ hp))
def C19{body:List Stmt}(hp:PassesOwn (model X.prog X.w) X.A X.env X.xe)(hc:X.calm=true)(hi:PI X tg iter wi)(hg:PG X tg g)(hb:PSs X body tb)(hs: ∀x,foldedSetIterable iter X.env x=pure x:=by intro _;rfl):PS X (.For tg iter body [] pos) (C4b wi g tb):=by
 intro pins s S H D I h;refine wpAny_For (J9 (hi pins s S H _ I h) λv s1 h1=>J9 h1 λitv s2 h2=>?_) hs;obtain⟨it,fp,tn,J,H2,e,I2,T,st2,f2,W,⟨m0,w0⟩,turn⟩:=h2;subst e;have stat: ∀{H':Hp},(∀b∈fp,H' b=none)->∀b∈fp,A7v X pins H' b:=λhn b hb=>⟨hn b hb,(f2 b hb).2⟩;refine codeAny_forLoop_any (λn s'=>∃i S' H',C3 X pins S' H' s'/\tn i s'.heap/\(∀b∈fp,H' b=none)/\W i n S' H') ?_ m0 ⟨0,S,H2,I2,st2,λb hb=>(f2 b hb).1,w0⟩;rintro n s3 ⟨i,S3,H3,I3,st3,fr3,w3⟩;rcases turn i n S3 H3 w3 with⟨stop,qn⟩|⟨go,N,hN,step⟩
 ·refine wpAny_passesOwn hp (J9 (T.done X rfl rfl rfl hc i pins s3 S3 H3 X.xe I3 (stat fr3) st3 stop) λr s4 ⟨hr,I4⟩=>?_);subst hr;exact wpAny_execs_nil ⟨S3,H3,I4,qn⟩
 ·refine wpAny_passesOwn hp (J9 (T.item X rfl rfl rfl hc i pins s3 S3 H3 X.xe I3 (stat fr3) st3 go) λr s4 ⟨u,hr,h4⟩=>?_);subst hr;refine wpAny_passesOwn hp (J9 h4 λ_ s5 ⟨x,H5,I5,r5,y5,st5,fr5⟩=>?_);have I5':=I5.pinned (stat fr5) (T.obj _ _ st5);refine wpAny_passesOwn hp (J9 (hg _ s5 S3 H5 x u _ I5' r5 (step x H5 y5)) λ_ s6 ⟨S6,H6,I6,q6⟩=>?_);refine wpAny_passesOwn hp (J9 (hb _ s6 S6 H6 _ I6 q6) λf s7 q7=>?_);have again: ∀{S7:St}{H7:Hp},C3 X (pins++A6g fp s5.heap) S7 H7 s7->N S7 H7->∃m,m<n/\∃i S' H',C3 X pins S' H' s7/\tn i s7.heap/\(∀b∈fp,H' b=none)/\W i m S' H':=λ{S7 H7} I7 n7=>by obtain⟨m',hm,w7⟩:=hN S7 H7 n7;refine⟨m',hm,i+1,S7,H7,I7.unpinned,T.keep _ _ _ st5 λb hb o e=>(I7.pin (b,o) (Hy _ (Hy _ (A23 hb e)))).1,λb hb=>?_,w7⟩;obtain⟨o,e,d⟩:=T.obj _ _ st5 b hb;exact(I7.pin (b,o) (Hy _ (Hy _ (A23 hb e)))).2.1
  cases f with
  |next=>obtain⟨S7,H7,I7,n7⟩:=q7;exact again I7 n7
  |cont=>obtain⟨S7,H7,I7,n7⟩:=q7;exact again I7 n7
  |brk=>obtain⟨S7,H7,I7,q7⟩:=q7;exact⟨S7,H7,I7.unpinned,q7⟩
  |ret v=>obtain⟨x7,S7,H7,I7,r7,q7⟩:=q7;exact⟨x7,S7,H7,I7.unpinned,r7,q7⟩
end
abbrev R2:=V->V->Hp->VK->Prop
def OpR(X:Cx)(f:Nj->Nj->Sem Nj)(r:R2):Prop:=
 ∀(pins:List (Nh×Obj))(s:Ni)(S:St)(H:Hp)(x y:V)(v u:Nj)(Q:VK),C3 X pins S H s->D7 x v->D7 y u->r x y H Q->
  wpAny (model X.prog X.w) X.A (f v u) (EP X pins S Q) X.xe s
def UnR(X:Cx)(f:Nj->Sem Nj)(r:V->Hp->VK->Prop):Prop:=
 ∀(pins:List (Nh×Obj))(s:Ni)(S:St)(H:Hp)(x:V)(v:Nj)(Q:VK),C3 X pins S H s->D7 x v->r x H Q->
  wpAny (model X.prog X.w) X.A (f v) (EP X pins S Q) X.xe s
def Y1(X:Cx)(f:Nj)(r:List V->Hp->VK->Prop):Prop:=
 ∀(pins:List (Nh×Obj))(s:Ni)(S:St)(H:Hp)(xs:List V)(us:List Nj)(Q:VK),C3 X pins S H s->C9 xs us->r xs H Q->
  wpAny (model X.prog X.w) X.A (call f us) (EP X pins S Q) X.xe s
def tOp(r:R2)(ta tb:TE):TE:=fun S H Q=>ta S H λx H1=>tb S H1 λy H2=>r x y H2 Q
def tUn(r:V->Hp->VK->Prop)(ta:TE):TE:=fun S H Q=>ta S H λx H1=>r x H1 Q
def rI(C:Int->Int->Prop)(g:Int->Int->V):R2:=λx y H Q=>∃i j,x=.int i/\y=.int j/\C i j/\Q (g i j) H
def rI0(g:Int->Int->V):R2:=λx y H Q=>∃i j,x=.int i/\y=.int j/\Q (g i j) H
def rU(g:Int->V):V->Hp->VK->Prop:=λx H Q=>∃i,x=.int i/\Q (g i) H
section
variable{X:Cx}{a b c:Expr}{ta tb tc:TE}{pos:Pos}
def C3e(ha:PE X a ta)(hb:PE X b tb){pins:List (Nh×Obj)}{s:Ni}{S:St}{H:Hp}{R:V->V->Hp->Prop}(I:C3 X pins S H s)(h:ta S H λx H1=>tb S H1 λy H2=>R x y H2){Q:Nj->Ni->Prop}{f:Nj->Nj->Sem Nj}(hf: ∀v u s2 x y H2,C3 X pins S H2 s2->D7 x v->D7 y u->R x y H2->wpAny (model X.prog X.w) X.A (f v u) Q X.xe s2):
  wpAny (model X.prog X.w) X.A (eval a X.env) (λv s1'=>wpAny (model X.prog X.w) X.A (eval b X.env) (λu s2'=>wpAny (model X.prog X.w) X.A (f v u) Q X.xe s2') X.xe s1') X.xe s:=by
 refine J9 (ha pins s S H _ I h) λv s1 ⟨x,H1,I1,r1,q1⟩=>?_;refine J9 (hb pins s1 S H1 _ I1 q1) λu s2 ⟨y,H2,I2,r2,q2⟩=>?_;exact hf v u s2 x y H2 I2 r1 r2 q2
def C4x{op:Operator}{r:R2}(ho:OpR X (binaryOp op) r)(ha:PE X a ta)(hb:PE X b tb):PE X (.BinOp a op b pos) (tOp r ta tb):=by intro pins s S H Q I h;exact wpAny_BinOp (C3e ha hb I h λv u s2 x y H2 I2 rx ry q=>ho pins s2 S H2 x y v u Q I2 rx ry q)
def C07{op:UnaryOp}{r:V->Hp->VK->Prop}(ho:UnR X (unaryOp op) r)(ha:PE X a ta):PE X (.UnaryOp op a pos) (tUn r ta):=by intro pins s S H Q I h;exact UnaryOp_ (J9 (ha pins s S H _ I h) λv s1 ⟨x,H1,I1,r1,q1⟩=>ho pins s1 S H1 x v Q I1 r1 q1)
def opI{f:Nj->Nj->Sem Nj}{C:Int->Int->Prop}{g:Int->Int->Int}(rule: ∀(i j:Int)(t u:Tok)(s:Ni)(Q:Nj->Ni->Prop)(E:Nj->Ni->Prop),C i j->Q (.int (g i j) s.toks) {s with toks:=s.toks+1}->wpAny (model X.prog X.w) X.A (f (.int i t) (.int j u)) Q E s):
  OpR X f (rI C λi j=>.int (g i j)):=by
 intro pins s S H x y v u Q I rx ry h;obtain⟨i,j,rfl,rfl,hc,q⟩:=h;obtain⟨t,rfl⟩:=rx;obtain⟨t',rfl⟩:=ry;exact rule i j t t' s _ _ hc ⟨.int (g i j),H,I.tok _,⟨_,rfl⟩,q⟩
def B93{f:Nj->Nj->Sem Nj}{g:Int->Int->Int}(rule: ∀(i j:Int)(t u:Tok)(s:Ni)(Q:Nj->Ni->Prop)(E:Nj->Ni->Prop),Q (.int (g i j) s.toks) {s with toks:=s.toks+1}->wpAny (model X.prog X.w) X.A (f (.int i t) (.int j u)) Q E s):
  OpR X f (rI0 λi j=>.int (g i j)):=by
 intro pins s S H x y v u Q I rx ry h;obtain⟨i,j,rfl,rfl,q⟩:=h;obtain⟨t,rfl⟩:=rx;obtain⟨t',rfl⟩:=ry;exact rule i j t t' s _ _ ⟨.int (g i j),H,I.tok _,⟨_,rfl⟩,q⟩
def B94{f:Nj->Nj->Sem Nj}{g:Int->Int->Bool}(rule: ∀(i j:Int)(t u:Tok)(s:Ni)(Q:Nj->Ni->Prop)(E:Nj->Ni->Prop),Q (.bool (g i j)) s->wpAny (model X.prog X.w) X.A (f (.int i t) (.int j u)) Q E s):
  OpR X f (rI0 λi j=>.bl (g i j)):=by
 intro pins s S H x y v u Q I rx ry h;obtain⟨i,j,rfl,rfl,q⟩:=h;obtain⟨t,rfl⟩:=rx;obtain⟨t',rfl⟩:=ry;exact rule i j t t' s _ _ ⟨.bl (g i j),H,I,rfl,q⟩
def C3A(i j:Int):Prop:=0<=j/\j<=1000000/\i.natAbs<2^64
def C2z:OpR X (binaryOp .Add) (rI0 λi j=>.int (i+j)):=B93 λ_ _ _ _ _ _ _ q=>add_int q
def C2u:OpR X (binaryOp .Sub) (rI0 λi j=>.int (i -j)):=B93 λ_ _ _ _ _ _ _ q=>sub_int q
def C2v:OpR X (binaryOp .LShift) (rI C3A λi j=>.int (i*2^j.toNat)):=opI λ_ _ _ _ _ _ _ hc q=>lshift_int_small hc.1 hc.2.1 hc.2.2 q
def C2y:OpR X (binaryOp .BitAnd) (rI0 λi j=>.int (Builtin.bitAnd i j)):=B93 λ_ _ _ _ _ _ _ q=>and_int q
def C4F:OpR X (binaryOp .BitOr) (rI0 λi j=>.int (Builtin.bitOr i j)):=B93 λ_ _ _ _ _ _ _ q=>or_int q
def unI{f:Nj->Sem Nj}{g:Int->Int}(rule: ∀(i:Int)(t:Tok)(s:Ni)(Q:Nj->Ni->Prop)(E:Nj->Ni->Prop),Q (.int (g i) s.toks) {s with toks:=s.toks+1}->wpAny (model X.prog X.w) X.A (f (.int i t)) Q E s):
  UnR X f (rU λi=>.int (g i)):=by
 intro pins s S H x v Q I rx h;obtain⟨i,rfl,q⟩:=h;obtain⟨t,rfl⟩:=rx;exact rule i t s _ _ ⟨.int (g i),H,I.tok _,⟨_,rfl⟩,q⟩
def C1x:UnR X (unaryOp .USub) (rU λi=>.int (-i)):=unI λ_ _ _ _ _ q=>neg_int q
def C1y:UnR X (unaryOp .Invert) (rU λi=>.int (Builtin.bitNot i)):=unI λ_ _ _ _ _ q=>invert_int q
end
noncomputable def B9w:V->V->Bool
 |.non,.non=>true|.non,.int _=>true|.int _,.non=>true|.non,.bl _=>true|.bl _,.non=>true|.non,.str _=>true|.str _,.non=>true
 |.int _,.int _=>true|.bl _,.bl _=>true|.str _,.str _=>true|.byt _,.byt _=>true
 |.int _,.str _=>true|.str _,.int _=>true|.bl _,.str _=>true|.str _,.bl _=>true
 |_,_=>false
def rEq:R2:=λx y H Q=>B9w x y=true/\Q (.bl (decide (x=y))) H
def rNe:R2:=λx y H Q=>B9w x y=true/\Q (.bl (!decide (x=y))) H
def B4D{i j:Int}:decide (V.int i=V.int j)=(i==j):=by rw[Im];simp
def B8l{i j:Bool}:decide (V.bl i=V.bl j)=(i==j):=by rw[Im];simp
def B4C:decide (V.str i=V.str j)=(i==j):=by rw[Im];simp
def B4E{i j:Array UInt8}:decide (V.byt i=V.byt j)=(i.toList==j.toList):=by rw[Im];cases i;cases j;simp
section
variable{X:Cx}{a b c:Expr}{ta tb tc:TE}{pos:Pos}
def E2{k k':Bool}(I:C3 X pins S H s)(q:Q (.bl k) H)(e:k=k'):EP X pins S Q (.bool k') s:=by subst e;exact⟨.bl k,H,I,rfl,q⟩
def C4L:OpR X (compareOp .Eq) rEq:=by
 intro pins s S H x y v u Q I rx ry h;obtain⟨hs,q⟩:=h
 cases x with
 |non=>
  cases rx
  cases y with
  |non=>cases ry;exact PySem.EqNone.eq_none_none (E2 I q (by simp))
  |bl j=>cases ry;exact PySem.EqNone.eq_none_bool (E2 I q (by simp))
  |int j=>obtain⟨t',rfl⟩:=ry;exact PySem.EqNone.eq_none_int (E2 I q (by simp))
  |str j=>obtain⟨t',rfl⟩:=ry;exact PySem.EqNone.eq_none_str (E2 I q (by simp))
  |_=>exact Gn (show false=true from hs) Gs
 |bl i=>
  cases rx
  cases y with
  |non=>cases ry;exact PySem.EqNone.eq_bool_none (E2 I q (by simp))
  |bl j=>cases ry;exact eq_bool (E2 I q B8l)
  |str j=>obtain⟨t',rfl⟩:=ry;exact PySem.EqMixed.eq_bool_str (E2 I q (by simp))
  |_=>exact Gn (show false=true from hs) Gs
 |int i=>
  obtain⟨t,rfl⟩:=rx
  cases y with
  |non=>cases ry;exact PySem.EqNone.eq_int_none (E2 I q (by simp))
  |int j=>obtain⟨t',rfl⟩:=ry;exact eq_int (E2 I q B4D)
  |str j=>obtain⟨t',rfl⟩:=ry;exact PySem.EqMixed.eq_int_str (E2 I q (by simp))
  |_=>exact Gn (show false=true from hs) Gs
 |str i=>
  obtain⟨t,rfl⟩:=rx
  cases y with
  |non=>cases ry;exact PySem.EqNone.eq_str_none (E2 I q (by simp))
  |bl j=>cases ry;exact PySem.EqMixed.eq_str_bool (E2 I q (by simp))
  |int j=>obtain⟨t',rfl⟩:=ry;exact PySem.EqMixed.eq_str_int (E2 I q (by simp))
  |str j=>obtain⟨t',rfl⟩:=ry;exact eq_str (E2 I q B4C)
  |_=>exact Gn (show false=true from hs) Gs
 |byt i=>
  obtain⟨t,rfl⟩:=rx
  cases y with
  |byt j=>obtain⟨t',rfl⟩:=ry;exact PySem.W.eq_bytes (E2 I q B4E)
  |_=>exact Gn (show false=true from hs) Gs
 |_=>cases y<;>exact Gn (show false=true from hs) Gs
def C4G:OpR X (compareOp .NotEq) rNe:=by
 intro pins s S H x y v u Q I rx ry h;obtain⟨hs,q⟩:=h
 cases x with
 |non=>
  cases rx
  cases y with
  |non=>cases ry;exact PySem.EqNone.ne_none_none (E2 I q (by simp))
  |bl j=>cases ry;exact PySem.EqNone.ne_none_bool (E2 I q (by simp))
  |int j=>obtain⟨t',rfl⟩:=ry;exact PySem.EqNone.ne_none_int (E2 I q (by simp))
  |str j=>obtain⟨t',rfl⟩:=ry;exact PySem.EqNone.ne_none_str (E2 I q (by simp))
  |_=>exact Gn (show false=true from hs) Gs
 |bl i=>
  cases rx
  cases y with
  |non=>cases ry;exact PySem.EqNone.ne_bool_none (E2 I q (by simp))
  |bl j=>cases ry;exact ne_bool (E2 I q (Hm not B8l))
  |str j=>obtain⟨t',rfl⟩:=ry;exact PySem.EqMixed.ne_bool_str (E2 I q (by simp))
  |_=>exact Gn (show false=true from hs) Gs
 |int i=>
  obtain⟨t,rfl⟩:=rx
  cases y with
  |non=>cases ry;exact PySem.EqNone.ne_int_none (E2 I q (by simp))
  |int j=>obtain⟨t',rfl⟩:=ry;exact ne_int (E2 I q (Hm not B4D))
  |str j=>obtain⟨t',rfl⟩:=ry;exact PySem.EqMixed.ne_int_str (E2 I q (by simp))
  |_=>exact Gn (show false=true from hs) Gs
 |str i=>
  obtain⟨t,rfl⟩:=rx
  cases y with
  |non=>cases ry;exact PySem.EqNone.ne_str_none (E2 I q (by simp))
  |bl j=>cases ry;exact PySem.EqMixed.ne_str_bool (E2 I q (by simp))
  |int j=>obtain⟨t',rfl⟩:=ry;exact PySem.EqMixed.ne_str_int (E2 I q (by simp))
  |str j=>obtain⟨t',rfl⟩:=ry;exact ne_str (E2 I q (Hm not B4C))
  |_=>exact Gn (show false=true from hs) Gs
 |byt i=>
  obtain⟨t,rfl⟩:=rx
  cases y with
  |byt j=>obtain⟨t',rfl⟩:=ry;exact PySem.W.ne_bytes (E2 I q (Hm not B4E))
  |_=>exact Gn (show false=true from hs) Gs
 |_=>cases y<;>exact Gn (show false=true from hs) Gs
def C4H:OpR X (compareOp .Lt) (rI0 λi j=>.bl (decide (i<j))):=B94 λ_ _ _ _ _ _ _ q=>lt_int q
def C4I:OpR X (compareOp .LtE) (rI0 λi j=>.bl (decide (i<=j))):=B94 λ_ _ _ _ _ _ _ q=>le_int q
def C4J:OpR X (compareOp .Gt) (rI0 λi j=>.bl (decide (j<i))):=B94 λ_ _ _ _ _ _ _ q=>gt_int q
def C4K:OpR X (compareOp .GtE) (rI0 λi j=>.bl (decide (j<=i))):=B94 λ_ _ _ _ _ _ _ q=>ge_int q
def C2w:OpR X (compareOp .Is) (λx y H Q=>y=.non/\Q (.bl (decide (x=.non))) H):=by
 intro pins s S H x y v u Q I rx ry h;obtain⟨rfl,q⟩:=h;cases ry;refine is_none_gen (E2 I q ?_)
 cases x<;>first
  |(cases rx;rfl)
  |(obtain⟨t,rfl⟩:=rx;rfl)
def B91:OpR X (compareOp .IsNot) (λx y H Q=>y=.non/\Q (.bl (!decide (x=.non))) H):=by
 intro pins s S H x y v u Q I rx ry h;obtain⟨rfl,q⟩:=h;cases ry;refine isnot_none_gen (E2 I q ?_)
 cases x<;>first
  |(cases rx;rfl)
  |(obtain⟨t,rfl⟩:=rx;rfl)
def B35{op:CmpOp}{r:R2}(ho:OpR X (compareOp op) r)(ha:PE X a ta)(hb:PE X b tb)(hm:behindInMarks op b=false):PE X (.Compare a [op] [b] pos) (tOp r ta tb):=by intro pins s S H Q I h;exact wpAny_Compare1 (C3e ha hb I h λv u s2 x y H2 I2 rx ry q=>ho pins s2 S H2 x y v u Q I2 rx ry q) hm
def B0Y(t:TE):TT:=fun S H Q=>t S H λx H'=>∃k,x=.bl k/\Q k H'
def B30{op:CmpOp}{r:R2}(ho:OpR X (compareOp op) r)(ha:PE X a ta)(hb:PE X b tb)(hm:behindInMarks op b=false):PT X (.Compare a [op] [b] pos) (B0Y (tOp r ta tb)):=by
 intro pins s S H Q I h;refine wpAny_isTrue_Compare1 (J9 (ha pins s S H _ I h) λv s1 ⟨x,H1,I1,r1,q1⟩=>J9 (hb pins s1 S H1 _ I1 q1) λu s2 ⟨y,H2,I2,r2,q2⟩=>
  J9 (ho pins s2 S H2 x y v u _ I2 r1 r2 q2) λc s3 ⟨z,H3,I3,r3,k,e,q3⟩=>?_) hm
 subst e;cases r3;exact wpAny_truthy_bool ⟨H3,I3,q3⟩
def A9G(r r':R2)(ta tb tc:TE):TE:=fun S H Q=>ta S H λx H1=>tb S H1 λy H2=>r x y H2 λz H3=>∃k,z=.bl k/\
 (if k=true then tc S H3 λw' H4=>r' y w' H4 Q else Q (.bl false) H3)
def B7p{op op':CmpOp}{r r':R2}(ho:OpR X (compareOp op) r)(ho':OpR X (compareOp op') r')(ha:PE X a ta)(hb:PE X b tb)(hc:PE X c tc)(hm:lastMarks [op,op'] [b,c]=false:=by with_unfolding_all rfl):PE X (.Compare a [op,op'] [b,c] pos) (A9G r r' ta tb tc):=by
 intro pins s S H Q I h;refine Compare_chain (J9 (ha pins s S H _ I h) λv s1 ⟨x,H1,I1,r1,q1⟩=>chain_link (J9 (hb pins s1 S H1 _ I1 q1) λu s2 ⟨y,H2,I2,r2,q2⟩=>
  J9 (ho pins s2 S H2 x y v u _ I2 r1 r2 q2) λd s3 ⟨z,H3,I3,r3,k,e,q3⟩=>?_)) hm
 subst e;cases r3;refine wpAny_truthy_bool ?_
 cases k with
 |false=>exact ite_ff ⟨.bl false,H3,I3,rfl,q3⟩
 |true=>exact ite_tt (chain_last (J9 (hc pins s3 S H3 _ I3 q3) λw' s4 ⟨z',H4,I4,r4,q4⟩=>ho' pins s4 S H4 y z' u w' Q I4 r2 r4 q4))
def B62{op op':CmpOp}{r r':R2}(ho:OpR X (compareOp op) r)(ho':OpR X (compareOp op') r')(ha:PE X a ta)(hb:PE X b tb)(hc:PE X c tc)(hm:lastMarks [op,op'] [b,c]=false:=by with_unfolding_all rfl):PT X (.Compare a [op,op'] [b,c] pos) (B0Y (A9G r r' ta tb tc)):=by
 intro pins s S H Q I h;refine isTrue_chain (J9 (ha pins s S H _ I h) λv s1 ⟨x,H1,I1,r1,q1⟩=>test_link (J9 (hb pins s1 S H1 _ I1 q1) λu s2 ⟨y,H2,I2,r2,q2⟩=>
  J9 (ho pins s2 S H2 x y v u _ I2 r1 r2 q2) λd s3 ⟨z,H3,I3,r3,k,e,q3⟩=>?_)) hm
 subst e;cases r3;refine wpAny_truthy_bool ?_
 cases k with
 |false=>obtain⟨k',e',q'⟩:=q3;cases e';exact ite_ff ⟨H3,I3,q'⟩
 |true=>refine ite_tt (test_last (J9 (hc pins s3 S H3 _ I3 q3) λw' s4 ⟨z',H4,I4,r4,q4⟩=>J9 (ho' pins s4 S H4 y z' u w' _ I4 r2 r4 q4) λd' s5 ⟨z2,H5,I5,r5,k2,e2,q5⟩=>?_));subst e2;cases r5;exact wpAny_truthy_bool ⟨H5,I5,q5⟩
def A4o:(sizeLine:Nat)<2^63:=by rw[sizeLine_eq];decide
def A4I(r:C9 [x] us): ∃u,us=[u]/\D7 x u:=by
 cases r with
 |cons r1 r2=>cases r2;exact⟨_,rfl,r1⟩
def C0Q(r:C9 [x,y] us): ∃u w',us=[u,w']/\D7 x u/\D7 y w':=by
 cases r with
 |cons r1 r2=>
  cases r2 with
  |cons r3 r4=>cases r4;exact⟨_,_,rfl,r1,r3⟩
def B8v:Y1 X (.builtin "abs") (λxs H Q=>∃i,xs=[.int i]/\Q (.int (if i<0 then -i else i)) H):=by intro pins s S H xs us Q I r h;obtain⟨i,rfl,q⟩:=h;obtain⟨u,rfl,t,rfl⟩:=A4I r;exact call_abs_int λu tk=>⟨.int (if i<0 then -i else i),H,I.tok _,⟨_,rfl⟩,q⟩
def B5I(hc:X.calm=true):Y1 X (.builtin "max") (λxs H Q=>∃i j,xs=[.int i,.int j]/\Q (.int (if j>i then j else i)) H):=by
 intro pins s S H xs us Q I r h;obtain⟨i,j,rfl,q⟩:=h;obtain⟨u,w',rfl,⟨t,rfl⟩,⟨t',rfl⟩⟩:=C0Q r;refine max_two_ints (I.ok.hd hc) λh' tk k=>⟨_,H,I.kept k,?_,q⟩;by_cases hj:j>i
 ·rw[Gf hj,Gf hj];exact⟨_,rfl⟩
 ·rw[Gd hj,Gd hj];exact⟨_,rfl⟩
def B0n:Y1 X (.type "str") (λxs H Q=>∃i,xs=[.int i]/\i.natAbs.log2<1920/\Q (.str (toString i)) H):=by intro pins s S H xs us Q I r h;obtain⟨i,rfl,hz,q⟩:=h;obtain⟨u,rfl,t,rfl⟩:=A4I r;exact PySem.P.str_of_int hz ⟨.str _,H,I.tok _,⟨_,rfl⟩,q⟩
def B8u:Y1 X (.builtin "ord") (λxs H Q=>∃x,xs=[.str x]/\x.length=1/\Q (.int (x.cps.getD 0 0:Nat)) H):=by intro pins s S H xs us Q I r h;obtain⟨x,rfl,hz,q⟩:=h;obtain⟨u,rfl,t,rfl⟩:=A4I r;exact ord_of_one hz ⟨.int _,H,I.tok _,⟨_,rfl⟩,q⟩
end
structure B5Q(h:Heap)(x dx C:Nh)(mA:Str->Option Nj):Prop where
 obj:h.get? x=some (PySem.W.instObj C dx)
 ns:h.Ns1 dx mA
 ne:dx≠x
def B5i{h:Heap}{dx:Nh}{mA:Str->Option Nj}(n:h.Ns1 dx mA): ∃od,h.get? dx=some od/\∀name,PySem.W.lookIn name od=some (mA name):=by
 obtain⟨o,es,ep,ho,hd,hk,_,hm⟩:=n;refine⟨o,ho,λname=>?_⟩;have e:=hm name;unfold nsFind findBy at e;rw[<-Array.find?_toList]at e;unfold PySem.W.lookIn;rw[hd];dsimp only;split
 ·rename_i q;rw[q]at e;exact Hm some e
 ·rename_i q;rw[q]at e;have a:es.toList.any (·.refKey)=false:=by rw[List.any_eq_false];intro y hy;obtain⟨z,t,hkey⟩:=hk y (Array.mem_toList_iff.mp hy);simp[DictEntry.refKey,hkey]
  have a': ¬es.toList.any (·.refKey)=true:=by rw[a];exact Gs
  rw[Gd a'];exact Hm some e
def B5Q.look(I:B5Q h x dx C mA): ∃od,PySem.W.InstAt h x (PySem.W.instObj C dx) C (some od)/\∀name,PySem.W.lookIn name od=some (mA name):=
 let ⟨od,ho,hl⟩:=B5i I.ns
 ⟨od,⟨I.obj,rfl,rfl,ho⟩,hl⟩
section
variable{prog:Nk}{w:World}{A:Around}{E:Nj->Ni->Prop}{s:Ni}{K:Fg}{x dx C f:Nh}{mA:Str->Option Nj}{name:Str}{v:Nj}
def C0q{expr:Bool}(X:K.In s.heap)(I:B5Q s.heap x dx C mA)(hg:PySem.W.plainGet K C name=true)(hh:PySem.W.hasDictIn K C=true)(ha:PySem.W.findIn K (.ref C) name=some none)(hv:mA name=some v)(hv':PySem.W.handedIn v=true)(h:Q v {s with toks:=s.toks+1}):
  wpAny (model prog w) A (getAttr (.ref x) name expr) Q E s:=by
 obtain⟨od,J,hl⟩:=I.look;exact PySem.W.get_value X J (PySem.W.plainGet_of hg).1 (PySem.W.findObj_own hh ha rfl (by rw[hl,hv])) hv' h
def B9v{Q:Unit->Ni->Prop}(X:K.In s.heap)(I:B5Q s.heap x dx C mA)
  (hs:PySem.W.findIn K (.ref C) "__setattr__"=some (some (.builtin "object.__setattr__"))) (hp:PySem.W.plainOver K C=true) (ht:PySem.W.takerIn K C name=some none) (hh:PySem.W.hasDictIn K C=true)
  (hw:PySem.Within mA ns) (hsz:ns.length<=sizeLine)
  (h: ∀h',B5Q h' x dx C (λy=>if y=name then some v else mA y)->Heap.SameBut dx s.heap h'->Q () {s with heap:=h',toks:=s.toks+2}):
  wpAny (model prog w) A (setAttr (.ref x) name v) Q E s:=by
 obtain⟨od,J,hl⟩:=I.look;refine PySem.W.set_plain X J hs (PySem.W.osa_open (s:={s with toks:=s.toks+1}) (r:=none) X J hp ht λb=>?_);obtain⟨cd,hc,hd'⟩:=PySem.W.any_some hh;have hx:s.heap.get? x=some ⟨.ref C,some dx,.plain, #[]⟩:=I.obj;refine Gc (Gx (Gc (Gc (wpAny_loadPart hx (Gc (PySem.W.Looks.here (s:={s with toks:=s.toks+1}) (PySem.W.looks_clsIn X hc) ?_))))));rw[hd'];refine Gx (a:=some dx) (Gc (Gx (Gc ?_)));refine wpAny_nsSet1 (s:={s with toks:=s.toks+1}) I.ns λh' hn2 hs2=>?_;obtain⟨oD,esD,epD,hoD,hdD,hcD⟩:=hn2.count (PySem.Within.cons name v hw);refine Gc (wpAny_lookBehind hoD (by rw[hdD];exact pastItsLine_dict (Hc hcD (by rw[Ge];lia))) ?_);exact Gx (h _ ⟨(hs2.2 _ (Ii I.ne)).trans I.obj,hn2,I.ne⟩ hs2)
def B7G{R:Result->Ni->Prop}{kw:List (Str×Nj)}(X:K.In s.heap)(hm:PySem.W.makesIn K C=true)
  (hi:PySem.W.findIn K (.ref C) "__init__"=some (some (.ref f))) (hf:PySem.W.typeIn K (.ref f)=some (.type "function"))
  (h:codeAny (model prog w) (A.under (.builtin "type.__call__" ⟨.ref C::vs,kw⟩)) (.call (.ref f) ⟨.ref (s.heap.objs.size+1)::vs,kw⟩) (PySem.W.InitBack (s.heap.objs.size+1) R)
   {s with heap:=(s.heap.push PySem.W.emptyDict).push (PySem.W.instObj C s.heap.objs.size)}):
  codeAny (model prog w) A (.call (.ref C) ⟨vs,kw⟩) R s:=by
 obtain⟨hh,g,d,t,os⟩:=s;exact PySem.W.make_core (PySem.W.makes_of X hm) (PySem.W.looks_findIn X hi) (λself=>PySem.W.bind_fn X self hf) (.inl rfl) h
end
noncomputable def D8(f:Str)(v:V):List (Str×V)->List (Str×V)
 |[]=>[(f,v)]
 |(g,x)::r=>if g=f then(g,v)::r else(g,x)::D8 f v r
theorem A4Q(f g:Str)(v:V): ∀fs:List (Str×V),(D8 f v fs).lookup g=if g=f then some v else fs.lookup g
 |[]=>by
  show List.lookup g [(f,v)]=_;by_cases h:g=f
  ·have hb:(g==f)=true:=beq_iff_eq.mpr h;dsimp[List.lookup,hb,Gf h]
  ·have hb:(g==f)=false:=beq_eq_false_iff_ne.mpr h;dsimp[List.lookup,hb,Gd h]
 |(k,x)::r=>by
  have ih:=A4Q f g v r;rw[show D8 f v ((k,x)::r)=(if k=f then(k,v)::r else(k,x)::D8 f v r) from rfl];by_cases hk:k=f
  ·rw[Gf hk];by_cases h:g=k
   ·have hb:(g==k)=true:=beq_iff_eq.mpr h;dsimp[List.lookup,hb,Gf (h.trans hk)]
   ·have hb:(g==k)=false:=beq_eq_false_iff_ne.mpr h;dsimp[List.lookup,hb,Gd (λe:g=f=>h (e.trans hk.symm))]
  ·rw[Gd hk];by_cases h:g=k
   ·have hb:(g==k)=true:=beq_iff_eq.mpr h;dsimp[List.lookup,hb,Gd (λe:g=f=>hk (h.symm.trans e))]
   ·have hb:(g==k)=false:=beq_eq_false_iff_ne.mpr h;dsimp[List.lookup,hb];exact ih
theorem A4r(f:Str)(v:V): ∀fs:List (Str×V),f∈(D8 f v fs).map (·.1)/\∀g,g∈fs.map (·.1)->g∈(D8 f v fs).map (·.1)
 |[]=>⟨by simp[D8],λg h=>by simp at h⟩
 |(k,x)::r=>by
  obtain⟨i1,i2⟩:=A4r f v r;rw[show D8 f v ((k,x)::r)=(if k=f then(k,v)::r else(k,x)::D8 f v r) from rfl];by_cases hk:k=f
  ·rw[Gf hk];subst hk;exact⟨by simp,λg h=>by simpa using h⟩
  ·rw[Gd hk];refine⟨?_,λg h=>?_⟩
   ·rw[Gm];exact Gh _ i1
   ·rw[Gm]at h ⊢;rcases Gk.mp h with e|e
    ·exact Gk.mpr (.inl e)
    ·exact Gh _ (i2 g e)
theorem A4R(f:Str)(v:V): ∀fs:List (Str×V),(D8 f v fs).length<=fs.length+1
 |[]=>by simp[D8]
 |(k,x)::r=>by
  have ih:=A4R f v r;rw[show D8 f v ((k,x)::r)=(if k=f then(k,v)::r else(k,x)::D8 f v r) from rfl];by_cases hk:k=f
  ·rw[Gf hk,Ge,Ge];lia
  ·rw[Gd hk,Ge,Ge];lia
def A3i.some_of{o:Option Nj}(r:A3i (some v) o): ∃u,o=some u/\D7 v u:=by
 cases o with
 |none=>exact(show False from r).elim
 |some u=>exact⟨u,rfl,r⟩
def B5u(r:D7 v u):PySem.W.handedIn u=true:=by
 cases v with
 |non=>cases (show u=Value.none from r);rfl
 |bl b=>cases (show u=Value.bool b from r);rfl
 |int i=>obtain⟨t,e⟩:=(show ∃t,u=Value.int i t from r);cases e;rfl
 |str x=>obtain⟨t,e⟩:=(show ∃t,u=Value.str x t from r);cases e;rfl
 |byt b=>obtain⟨t,e⟩:=(show ∃t,u=Value.bytes b t from r);cases e;rfl
 |flt b=>obtain⟨t,e⟩:=(show ∃t,u=Value.float b t from r);cases e;rfl
 |ref a=>cases (show u=Value.ref a from r);rfl
 |ty n=>cases (show u=Value.type n from r);rfl
section
variable{P:Nk}{w:World}{H H':Hp}{h h':Heap}{a C dx:Nh}{fs fs':List (Str×V)}
def B4o(hok:HOk P w H h)(e:H a=some (.ins C dx fs)): ∃mA,B5Q h a dx C mA/\(∀f,A3i (fs.lookup f) (mA f))/\PySem.Within mA (fs.map (·.1))/\fs.length<=1000/\H dx=some (.own a):=by
 obtain⟨d,z,ne,ob,mA,n,r,q⟩:=(show N6 P w H h a (.ins C dx fs) from hok a _ e)
 exact⟨mA,⟨ob,n,ne⟩,r,q,z,d⟩
end
structure Cls(K:Fg)(C:Nh):Prop where
 pg:PySem.W.plainGet K C Str.empty=true
 hd:PySem.W.hasDictIn K C=true
 po:PySem.W.plainOver K C=true
 sa:PySem.W.findIn K (.ref C) "__setattr__"=some (some (.builtin "object.__setattr__"))
def Cls.get{K:Fg}{C:Nh}(c:Cls K C)(f:Str):PySem.W.plainGet K C f=true:=c.pg
def A1d(K:Fg)(C:Nh)(f:Str):Prop:=PySem.W.findIn K (.ref C) f=some none
def A1d.taker{K:Fg}{C:Nh}{f:Str}(n:A1d K C f):PySem.W.takerIn K C f=some none:=by unfold PySem.W.takerIn;rw[show PySem.W.findIn K (.ref C) f=some none from n];rfl
structure Con(K:Fg)(C:Nh)(f:Str)(v:V)(u:Nj):Prop where
 at_:PySem.W.findIn K (.ref C) f=some (some u)
 rel:D7 v u
 get:PySem.W.specialIn K u "__get__"=some none
 cp:PySem.W.copiedNames.contains f=false
section
variable{X:Cx}{pins:List (Nh×Obj)}{S:St}{H:Hp}{s:Ni}{a C dx:Nh}{fs:List (Str×V)}{f:Str}{v:V}{A:Around}{E:Nj->Ni->Prop}
def B3h{b:Bool}(I:C3 X pins S H s)(e:H a=some (.ins C dx fs))(c:Cls X.K C)(n:A1d X.K C f)(l:fs.lookup f=some v)(h: ∀u s',C3 X pins S H s'->D7 v u->Q u s'):wpAny (model X.prog X.w) A (getAttr (.ref a) f b) Q E s:=by
 obtain⟨mA,O,r,_,_,_⟩:=B4o I.hok e;obtain⟨u,hu,ru⟩:=A3i.some_of (v:=v) (o:=mA f) (by rw[<-l];exact r f);exact C0q I.kIn O (c.get f) c.hd n hu (B5u ru) (h u _ (I.tok _) ru)
def B2Y{Q:Unit->Ni->Prop}(I:C3 X pins S H s)(e:H a=some (.ins C dx fs))(c:Cls X.K C)(n:A1d X.K C f)(hl:fs.length<1000)(ry:D7 y u)(h: ∀s',C3 X pins S (upd H a (.ins C dx (D8 f y fs))) s'->Q () s'):wpAny (model X.prog X.w) A (setAttr (.ref a) f u) Q E s:=by
 obtain⟨mA,O,r,wi,_,ho⟩:=B4o I.hok e;have hz:(fs.map (·.1)).length<=sizeLine:=by rw[Gz,sizeLine_eq];lia
 refine B9v I.kIn O c.sa c.po n.taker c.hd wi hz λh' O' sb=>h _ ?_;have hd: ∃o,h'.get? dx=some o:=let ⟨o,_,_,e',_⟩:=O'.ns;⟨o,e'⟩;refine I.write (x:=a) (e:=dx) (by rw[e];exact True.intro) (.inr ho) (λb q hb z=>(sb.2 b hb).trans z) hd ?_;refine⟨by rw[A4 O.ne];exact ho,?_,O.ne,O'.obj,_,O'.ns,λg=>?_,λg hg=>?_⟩
 ·have:=A4R f y fs;lia
 ·show A3i ((D8 f y fs).lookup g) (if g=f then some u else mA g);rw[A4Q];by_cases q:g=f
  ·rw[Gf q,Gf q];exact ry
  ·rw[Gd q,Gd q];exact r g
 ·by_cases q:g=f
  ·rw[q];exact(A4r f y fs).1
  ·refine(A4r f y fs).2 g (wi g λz=>hg ?_);show(if g=f then some u else mA g)=none;rw[Gd q];exact z
def C3.made(I:C3 X pins S H s):C3 X pins S (upd (upd H s.heap.objs.size (.own (s.heap.objs.size+1))) (s.heap.objs.size+1) (.ins C s.heap.objs.size []))
  {s with heap:=(s.heap.push PySem.W.emptyDict).push (PySem.W.instObj C s.heap.objs.size)}:=by
 have e1:(s.heap.push PySem.W.emptyDict).get? s.heap.objs.size=some PySem.W.emptyDict:=Hb s.heap rfl;have e2:((s.heap.push PySem.W.emptyDict).push (PySem.W.instObj C s.heap.objs.size)).get? (s.heap.objs.size+1)=some (PySem.W.instObj C s.heap.objs.size):=by
  have:=Hb (s.heap.push PySem.W.emptyDict) (o:=PySem.W.instObj C s.heap.objs.size) rfl
  rwa [Hs]at this
 have e3:(s.heap.push PySem.W.emptyDict).Ns s.heap.objs.size (λ_=>none):=⟨PySem.W.emptyDict, #[],_,e1,rfl,(λe he=>Gn he (by simp)),λ_=>rfl⟩
 have I1:=I.laid (a:=s.heap.objs.size) (o:=.own (s.heap.objs.size+1)) (h':=s.heap.push PySem.W.emptyDict) (t':=s.toks) (λb u q=>Gj _ q) (Gi _) ⟨_,e1⟩;refine I1.laid (a:=s.heap.objs.size+1) (o:=.ins C s.heap.objs.size []) (t':=s.toks) (λb u q=>Gj _ q) (Kh (Hs _ _)) ?_;have ne:s.heap.objs.size≠s.heap.objs.size+1:=Hn (Jq _);refine⟨by rw[A4 ne,A3],Il _,ne,e2,λ_=>none,(Heap.Ns1.of_empty e3).at λo q=>Gj _ q,λ_=>True.intro,λy hy=>Gn rfl hy⟩
def C0E(hb:attributeBase e f env (eval e env)=eval e env)(h:wpAny (model prog w) A (eval e env) (λo s1=>wpAny (model prog w) A (getAttr o f true) Q E s1) E s):wpAny (model prog w) A (eval (.Attribute e f pos) env) Q E s:=
 Attribute_any_ h (by rw[arm_eval_Attribute,hb])
end
def C6Z(K:Fg)(ta:TE)(f:Str):TE:=fun S H Q=>ta S H λx H1=>∃a C dx fs v,x=.ref a/\H1 a=some (.ins C dx fs)/\Cls K C/\A1d K C f/\fs.lookup f=some v/\Q v H1
def C7d(K:Fg)(ta tv:TE)(f:Str):TS:=λD S H=>tv S H λy H1=>ta S H1 λx H2=>∃a C dx fs,x=.ref a/\H2 a=some (.ins C dx fs)/\Cls K C/\A1d K C f/\fs.length<1000/\
 D.nx S (upd H2 a (.ins C dx (D8 f y fs)))
section
variable{X:Cx}{o e value:Expr}{f:Str}{pos pos' tpos:Pos}{ta tv:TE}
def C2o(he:PE X e ta)(hb:attributeBase e f X.env (eval e X.env)=eval e X.env):PE X (.Attribute e f pos) (C6Z X.K ta f):=by intro pins s S H Q I h;refine C0E hb (J9 (he pins s S H _ I h) λu s1 ⟨x,H1,I1,rx,hh⟩=>?_);obtain⟨a,C,dx,fs,v,ex,ea,c,n,l,q⟩:=hh;subst ex;obtain rfl:u=Value.ref a:=rx;exact B3h I1 ea c n l λu' s2 I2 ru=>⟨v,H1,I2,ru,q⟩
def C2a(ha:PE X o ta)(hv:PE X value tv)(hs:swapsWith value (some (.Attribute o f pos')) pos.line X.env=pure false):PS X (.Assign [.Attribute o f pos'] value pos) (C7d X.K ta tv f):=by intro pins s S H D I h;refine plainObj_wpAny_Assign_Attribute (J9 (hv pins s S H _ I h) λu s1 ⟨y,H1,I1,ry,q⟩=>J9 (ha pins s1 S H1 _ I1 q) λov s2 ⟨x,H2,I2,rx,hh⟩=>?_) hs;obtain⟨a,C,dx,fs,ex,ea,c,n,l,q2⟩:=hh;subst ex;obtain rfl:ov=Value.ref a:=rx;exact B2Y I2 ea c n l ry λs3 I3=>⟨S,_,I3,q2⟩
end
section
variable{X:Cx}{pins:List (Nh×Obj)}{S:St}{H:Hp}{s:Ni}{A:Around}{E:Nj->Ni->Prop}{Q:Nj->Ni->Prop}{c:Nj}{b:Bool}
end
structure Q8(k:Nat)(A:Around):Prop where
 hd:A.handled=none
 dp:A.depth+3*k+5<recursionLimit
 un:A.units+16*k+200<cLine
def Q8.mono{j k:Nat}(r:Q8 k A)(h:j<=k):Q8 j A:=⟨r.hd,by have:=r.dp;lia,by have:=r.un;lia⟩
def Q8.deeper{k:Nat}(r:Q8 (k+1) A)(env:Env):Q8 k (A.deeper env):=
 ⟨r.hd,by have:=r.dp;show A.depth+1+3*k+5<_;lia,by have:=r.un;show A.units+3+16*k+200<_;lia⟩
def B29{A:Around}{C:Nh}{us:List Nj}{kw:List (Str×Nj)}:(A.under (.builtin "type.__call__" ⟨.ref C::us,kw⟩)).depth=A.depth+1:=by first|rfl|simp[Around.under,Code.weight,Code.isCreation,Code.isGuard,Code.isCaller,Code.frames,Code.isFrame,guardIds]
def B28{A:Around}{C:Nh}{us:List Nj}{kw:List (Str×Nj)}:(A.under (.builtin "type.__call__" ⟨.ref C::us,kw⟩)).units=A.units+1:=by first|rfl|simp[Around.under,Code.cUnits,Code.frames,Code.isFrame]
def Q8.make{k:Nat}(r:Q8 (k+1) A)(C:Nh)(us:List Nj)(kw:List (Str×Nj)):Q8 k (A.under (.builtin "type.__call__" ⟨.ref C::us,kw⟩)):=
 ⟨r.hd,by have:=r.dp;rw[B29];lia,by have:=r.un;rw[B28];lia⟩
def Q8.depth{k:Nat}(r:Q8 k A):A.depth<recursionLimit:=by have:=r.dp;lia
def Q8.units{k:Nat}(r:Q8 k A):A.units+64<cLine:=by have:=r.un;lia
def B4V:TA:=λ_ H Q=>Q [] H
def B3S(ta:TE)(tr:TA):TA:=fun S H Q=>ta S H λx H1=>tr S H1 λxs H2=>Q (x::xs) H2
section
variable{X:Cx}{e:Expr}{es:List Expr}{te:TE}{t:TA}{pos:Pos}
def A07:PA X [] B4V:=λ_ _ _ _ H Q I h=>Calls.spliced_nil ⟨[],H,I,.nil,h⟩
def Y7(ha:PE X e te)(hr:PA X es t)(hs:⇑(starEach (e::es) X.env=(false,eval e X.env)::starEach es X.env)):PA X (e::es) (B3S te t):=by intro pos pins s S H Q I h;rw[hs];show wpAny _ _ (spliced ((false,eval e X.env)::backTo pos (starEach es X.env))) _ _ s;refine Calls.spliced_cons (J9 (ha pins s S H _ I h) λu s1 ⟨x,H1,I1,r1,q1⟩=>?_);exact J9 (hr pos pins s1 S H1 _ I1 q1) λus s2 ⟨xs,H2,I2,r2,q2⟩=>⟨x::xs,H2,I2,.cons r1 r2,q2⟩
def C3X(t:TA):TE:=fun S H Q=>t S H λxs H1=>xs.length<=sizeLine/\∀p,H1 p=none->Q (.ref p) (upd H1 p (.tup xs))
def C36(t:TA):TE:=fun S H Q=>t S H λxs H1=>xs.length<=sizeLine/\∀p,H1 p=none->Q (.ref p) (upd H1 p (.lst xs))
def C2j{x1}(h:PA X es t):PE X (.Tuple es x1 pos) (C3X t):=by intro pins s S H Q I hq;refine wpAny_Tuple_spliced (J9 (h pos pins s S H _ I hq) λus s1 ⟨xs,H1,I1,r,z,q⟩=>⟨by rw[<-r.length];exact z,?_⟩);have hf:H1 s1.heap.objs.size=none:=I1.hok.fresh (Gi _);refine⟨.ref s1.heap.objs.size,upd H1 s1.heap.objs.size (.tup xs),I1.laid (t':=s1.toks) (λb u e=>Gj _ e) (Gi _) ?_,rfl,q _ hf⟩;exact⟨z,us,r,⟨_,Hb _ rfl,rfl,_,rfl⟩⟩
def C2m(h:PA X es t):PE X (.List es pos) (C36 t):=by intro pins s S H Q I hq;refine wpAny_List_spliced (J9 (h pos pins s S H _ I hq) λus s1 ⟨xs,H1,I1,r,z,q⟩=>⟨by rw[<-r.length];exact z,?_⟩);have hf:H1 s1.heap.objs.size=none:=I1.hok.fresh (Gi _);refine⟨.ref s1.heap.objs.size,upd H1 s1.heap.objs.size (.lst xs),I1.laid (t':=s1.toks) (λb u e=>Gj _ e) (Gi _) ?_,rfl,q _ hf⟩;exact⟨z,us,0,r,Hb _ rfl⟩
end
abbrev Sp:=List V->Hp->VK->XK->Prop
abbrev CXT:=List Env->Hp->Ni->XK->Nj->Ni->Prop
structure B2B(P:Nk)(w:World)(K:Fg)(mg:MG)(base:Heap)(A:Around)(outer:List Env)(s:Ni)(H:Hp):Prop where
 frames:A.frames=some outer
 mod:Mod K mg base
 bs: ∀b o,base.get? b=some o->s.heap.get? b=some o/\H b=none
 bsz:base.objs.size<=s.heap.objs.size
 funs:s.heap.FunFrames base outer
 frf: ∀b∈frs outer,H b=none
 hok:HOk P w H s.heap
 bare:AllBare s.gens
def CE(outer:List Env)(P:Nk)(w:World)(H:Hp)(s:Ni)(Q:VK)(u:Nj)(s':Ni):Prop:=
 ∃v H',s'.os=s.os/\AllBare s'.gens/\Un (frs outer) [] H H' s.heap s'.heap/\HOk P w H' s'.heap/\D7 v u/\Q v H'
def CR(CX:CXT)(outer:List Env)(P:Nk)(w:World)(H:Hp)(s:Ni)(Q:VK)(E:XK)(r:Result)(s':Ni):Prop:=
 match r with
 |.ok (.ret u)=>CE outer P w H s Q u s'
 |.ok _=>False
 |.error e=>CX outer H s E e s'
structure A1t(P:Nk)(w:World)(K:Fg)(mg:MG)(base:Heap)(CX:CXT)(k:Nat)(f:Nh)(fd:FuncData)(ps:List Str)(sp:Sp):Prop where
 len: ∀vs H Q E,sp vs H Q E->vs.length=ps.length
 run: ∀(A:Around)(outer:List Env)(s:Ni)(H:Hp)(args:Args)(us:List Nj)(vs:List V)(Q:VK)(E:XK),Q8 k A->B2B P w K mg base A outer s H->BindsTo s fd args (ps.zip us)->C9 vs us->sp vs H Q E->
  codeAny (model P w) A (.call (.ref f) args) (CR CX outer P w H s Q E) s
def B2B.make{P:Nk}{w:World}{K:Fg}{mg:MG}{base:Heap}{A:Around}{outer:List Env}{s:Ni}{H:Hp}(e:B2B P w K mg base A outer s H)(C:Nh)(us:List Nj)(kw:List (Str×Nj)):
  B2B P w K mg base (A.under (.builtin "type.__call__" ⟨.ref C::us,kw⟩)) outer s H:=⟨by first|exact e.frames|(simpa[Around.under,Code.envs,Code.isFrame,pushEnvs] using e.frames),e.mod,e.bs,e.bsz,e.funs,e.frf,e.hok,e.bare⟩
section
variable{X:Cx}{pins:List (Nh×Obj)}{S:St}{H:Hp}{s s':Ni}
def C3.env0(I:C3 X pins S H s):B2B X.prog X.w X.K X.mg X.base X.A X.stack s H:=
 ⟨I.ok.frames,I.ok.mod,I.bs,Hc I.ok.bsz I.sz,I.stack,I.stkFree,I.hok,I.bare⟩
def C3.after(I:C3 X pins S H s)(h:CE X.stack X.prog X.w H s Q u s'):EP X pins S Q u s':=by obtain⟨v,H',os,bare,un,hok,r,q⟩:=h;obtain⟨hh,g,d,t,os'⟩:=s';obtain rfl:os'=s.os:=os;exact⟨v,H',I.call (h':=hh) (g':=g) (d':=d) (t':=t) (ch:=[]) un hok bare (λb z=>Gn z (by simp)),r,q⟩
end
def B6C(sp:Sp)(dvs:List V)(E:XK)(t:TA):TE:=fun S H Q=>t S H λvs H1=>sp (vs++dvs) H1 Q E
def B0Z(C:Nh)(sp:Sp)(dvs:List V)(E:XK)(t:TA):TE:=fun S H Q=>t S H λvs H1=>∀x dx,H1 x=none->H1 dx=none->dx≠x->
 sp (.ref x::(vs++dvs)) (upd (upd H1 dx (.own x)) x (.ins C dx [])) (λv H2=>v=.non/\Q (.ref x) H2) E
def A00(K:Fg)(fd:FuncData)(ps:List Str)(ds:List Nj):Prop:=
 ∀(s:Ni)(us:List Nj),K.In s.heap->(us++ds).length=ps.length->BindsTo s fd ⟨us,[]⟩ (ps.zip (us++ds))
def A00.all{K:Fg}{fd:FuncData}{ps:List Str}(h: ∀us:List Nj,us.length=ps.length->bindArgs fd ⟨us,[]⟩=pure (ps.zip us)):A00 K fd ps []:=λs us _ hl=>by rw[Hw]at hl ⊢;exact .of_eq (h us hl)
def A4G(CX:CXT)(X:Cx)(E:XK):Prop:=∀(pins:List (Nh×Obj))(S:St)(H:Hp)(s:Ni)(e:Nj)(s':Ni),C3 X pins S H s->CX X.stack H s E e s'->X.xe e s'
section
variable{X:Cx}{CX:CXT}{k:Nat}{f C:Nh}{fd:FuncData}{ps:List Str}{sp:Sp}{dvs:List V}{ds:List Nj}{E:XK}{x m:Str}{p pos apos:Pos}{e o:Expr}{es:List Expr}{ta:TE}{t:TA}
def B6U(F:A1t X.prog X.w X.K X.mg X.base CX k f fd ps sp)(hr:Q8 k X.A)(hb:A00 X.K fd ps ds)(hd:C9 dvs ds)(hx:A4G CX X E)(I:C3 X pins S H s)(r:C9 vs us)(h:sp (vs++dvs) H Q E):wpAny (model X.prog X.w) X.A (call (.ref f) us) (EP X pins S Q) X.xe s:=by
 have r2:C9 (vs++dvs) (us++ds):=r.append hd;have hl:(us++ds).length=ps.length:=by rw[<-r2.length];exact F.len _ _ _ _ h
 refine wpAny_call (codeAny_mono (F.run X.A X.stack s H ⟨us,[]⟩ (us++ds) (vs++dvs) Q E hr I.env0 (hb s us I.kIn hl) r2 h) λr s' hq=>?_)
 cases r with
 |error e=>exact hx pins S H s e s' I hq
 |ok fl=>
  cases fl with
  |ret u=>exact I.after hq
  |next=>exact Ik hq
  |brk=>exact Ik hq
  |cont=>exact Ik hq
def B9T(F:A1t X.prog X.w X.K X.mg X.base CX k f fd ps sp)(hr:Q8 k X.A)(hg:Gl X x)(hm:X.mg x=some (.ref f))(hk:PySem.W.keepIn X.K (.ref f)=true)(hb:A00 X.K fd ps ds)(hd:C9 dvs ds)(hx:A4G CX X E)(ha:PA X (e::es) t) (hdb: ~~~((x==("__debug__":Str))=false)) (he:⇑(starEach (e::es) X.env=(false,eval e X.env)::starEach es X.env)) (hpl:⇑((backTo pos (starEach es X.env)).any (·.1)=false)):
  PE X (.Call (.Name x p) (e::es) [] pos) (B6C sp dvs E t):=by
 intro pins s S H Q I h;refine wpAny_Call_Name_kw (A5R I hg hm ?_ hdb);refine PySem.W.callWith_K (h₀:=X.base) I.ok.mod.kin hk (J9 (ha pos pins s S H _ I h) λus s1 ⟨vs,H1,I1,r,q⟩=>⟨I1.kIn,?_⟩) he hpl;exact B6U F hr hb hd hx I1 r q
structure Mk(K:Fg)(C f:Nh):Prop where
 makes:PySem.W.makesIn K C=true
 init:PySem.W.findIn K (.ref C) "__init__"=some (some (.ref f))
 fn:PySem.W.isFn K (.ref f)=true
 kp:PySem.W.keepIn K (.ref C)=true
def B1i(M:Mk X.K C f)(F:A1t X.prog X.w X.K X.mg X.base CX k f fd ps sp)(hr:Q8 (k+1) X.A)(hb:A00 X.K fd ps ds)(hd:C9 dvs ds)(hx:A4G CX X E)(I:C3 X pins S H s)(r:C9 vs us)(h: ∀x dx,H x=none->H dx=none->dx≠x->sp (.ref x::(vs++dvs)) (upd (upd H dx (.own x)) x (.ins C dx [])) (λv H2=>v=.non/\Q (.ref x) H2) E):
  wpAny (model X.prog X.w) X.A (call (.ref C) us) (EP X pins S Q) X.xe s:=by
 have hq:=h (s.heap.objs.size+1) s.heap.objs.size (I.hok.fresh (Nat.le_succ _)) (I.hok.fresh (Gi _)) (Hn (Jq _));have I2:=C3.made (C:=C) I;have r2:C9 (V.ref (s.heap.objs.size+1)::(vs++dvs)) (Value.ref (s.heap.objs.size+1)::(us++ds)):=.cons rfl (r.append hd);have hl:(Value.ref (s.heap.objs.size+1)::us++ds).length=ps.length:=by have e:=r2.length;rw[F.len _ _ _ _ hq]at e;exact e.symm
 refine wpAny_call (B7G (f:=f) I.kIn M.makes M.init (beq_iff_eq.mp M.fn) (codeAny_mono (F.run _ X.stack _ _ ⟨Value.ref (s.heap.objs.size+1)::us,[]⟩ (Value.ref (s.heap.objs.size+1)::(us++ds)) _ _ E (hr.make C us [])
  (I2.env0.make C us []) (hb _ (Value.ref (s.heap.objs.size+1)::us) I2.kIn hl) r2 hq) λr s' hq'=>?_))
 cases r with
 |error e=>exact hx pins S _ _ e s' I2 hq'
 |ok fl=>
  cases fl with
  |ret u=>obtain⟨v,H',I3,rv,ev,q3⟩:=I2.after hq';subst ev;exact⟨rv,⟨V.ref (s.heap.objs.size+1),H',I3,rfl,q3⟩⟩
  |next=>exact Ik hq'
  |brk=>exact Ik hq'
  |cont=>exact Ik hq'
def B9P(M:Mk X.K C f)(F:A1t X.prog X.w X.K X.mg X.base CX k f fd ps sp)(hr:Q8 (k+1) X.A)(hg:Gl X x)(hm:X.mg x=some (.ref C))(hb:A00 X.K fd ps ds)(hd:C9 dvs ds)(hx:A4G CX X E)(ha:PA X (e::es) t) (hdb: ~~~((x==("__debug__":Str))=false)) (he:⇑(starEach (e::es) X.env=(false,eval e X.env)::starEach es X.env)) (hpl:⇑((backTo pos (starEach es X.env)).any (·.1)=false)):
  PE X (.Call (.Name x p) (e::es) [] pos) (B0Z C sp dvs E t):=by
 intro pins s S H Q I h;refine wpAny_Call_Name_kw (A5R I hg hm ?_ hdb);refine PySem.W.callWith_K (h₀:=X.base) I.ok.mod.kin M.kp (J9 (ha pos pins s S H _ I h) λus s1 ⟨vs,H1,I1,r,q⟩=>⟨I1.kIn,?_⟩) he hpl;exact B1i M F hr hb hd hx I1 r q
def B7l(M:Mk X.K C f)(F:A1t X.prog X.w X.K X.mg X.base CX k f fd ps sp)(hr:Q8 (k+1) X.A)(hg:Gl X x)(hm:X.mg x=some (.ref C))(hb:A00 X.K fd ps ds)(hd:C9 dvs ds)(hx:A4G CX X E)
  (hdb: ~~~((x==("__debug__":Str))=false)):PE X (.Call (.Name x p) [] [] pos) (B0Z C sp dvs E B4V):=by
 intro pins s S H Q I h;refine wpAny_Call_Name_kw (A5R I hg hm ?_ hdb);exact PySem.W.callWith_K0 I.kIn M.kp (B1i (us:=[]) M F hr hb hd hx I .nil h)
end
section
variable{X:Cx}{CX:CXT}{k:Nat}{f C:Nh}{fd:FuncData}{ps ks:List Str}{sp:Sp}{E:XK}{x m:Str}{p pos apos kpos:Pos}{e o:Expr}{es:List Expr}{kws:List Keyword}{te ta:TE}{t tk:TA}{nm:Option Str}
variable{g:List Nj->List Nj->List Nj}{gV:List V->List V->List V}
end
structure W8(N P:List Str)(sc:Scope):Prop where
 kind:sc.kind=.function
 co:sc.isCoroutine=false
 gen:sc.isGenerator=false
 nd:N.Nodup
 pre:N.take P.length=P
 par: ∀x∈P,sc.names.lookup x=some .local\/sc.names.lookup x=some .cell
 nofree: ∀y∈sc.names,y.2≠ .free
theorem A87{kindOf:Str->Option NameKind}: ∀{binds:List (Str×Nj)}{m:Str->Option Nj},(∀v,(x,v)∉binds)->bindL kindOf binds m x=m x
 |[],_,_=>rfl
 |(n,v)::r,m,h=>by
  unfold bindL;rw[A87 λw hw=>h w (Gh _ hw)];split
  ·have:x≠n:=by rintro rfl;exact h v Hi
   simp[this]
  ·rfl
theorem A89{kindOf:Str->Option NameKind}: ∀{binds:List (Str×Nj)}{m:Str->Option Nj},(∀v,(x,v)∉binds)->bindC kindOf binds m x=m x
 |[],_,_=>rfl
 |(n,v)::r,m,h=>by
  unfold bindC;rw[A89 λw hw=>h w (Gh _ hw)];split
  ·rfl
  ·have:x≠n:=by rintro rfl;exact h v Hi
   simp[this]
theorem A88{kindOf:Str->Option NameKind}: ∀{P:List Str}{vs:List Nj}{i:Nat}{m:Str->Option Nj},P.Nodup->P[i]?=some x->vs[i]?=some v->kindOf x=some .local->
  bindL kindOf (P.zip vs) m x=some v
 |[],_,_,_,_,h,_,_=>by simp at h
 |_::_,[],_,_,_,_,h,_=>by simp at h
 |p::P,w::vs,0,m,nd,h1,h2,hk=>by simp at h1 h2;subst h1;subst h2;show bindL kindOf ((p,w)::P.zip vs) m p=_;unfold bindL;rw[A87 λv hv=>(Jc.mp nd).1 (List.of_mem_zip hv).1,Gf hk];simp
 |p::P,w::vs,i+1,m,nd,h1,h2,hk=>by show bindL kindOf ((p,w)::P.zip vs) m x=_;unfold bindL;exact A88 (i:=i) (Jc.mp nd).2 (by simpa using h1) (by simpa using h2) hk
theorem A9a{kindOf:Str->Option NameKind}: ∀{P:List Str}{vs:List Nj}{i:Nat}{m:Str->Option Nj},P.Nodup->P[i]?=some x->vs[i]?=some v->kindOf x≠some .local->
  bindC kindOf (P.zip vs) m x=some v
 |[],_,_,_,_,h,_,_=>by simp at h
 |_::_,[],_,_,_,_,h,_=>by simp at h
 |p::P,w::vs,0,m,nd,h1,h2,hk=>by simp at h1 h2;subst h1;subst h2;show bindC kindOf ((p,w)::P.zip vs) m p=_;unfold bindC;rw[A89 λv hv=>(Jc.mp nd).1 (List.of_mem_zip hv).1,Gd hk];simp
 |p::P,w::vs,i+1,m,nd,h1,h2,hk=>by show bindC kindOf ((p,w)::P.zip vs) m x=_;unfold bindC;exact A9a (i:=i) (Jc.mp nd).2 (by simpa using h1) (by simpa using h2) hk
def A0L(N:List Str)(vs:List V):St:=vs.map some++List.replicate (N.length -vs.length) none
noncomputable def B0l(CX:CXT)(P:Nk)(w:World)(K:Fg)(mg:MG)(base:Heap)(N:List Str)(qual:Str)(scope:Scope)(f:Nh)(cd:Nj)(A:Around)(outer:List Env)(s:Ni)(H:Hp)(E:XK):Cx where
 prog:=P
 w:=w
 K:=K
 mg:=mg
 base:=base
 A:=A.deeper (envOfC qual scope s.heap.objs.size f cd)
 N:=N
 s_0:=s
 H_0:=H
 env:=envOfC qual scope s.heap.objs.size f cd
 outer:=outer
 stack:=envOfC qual scope s.heap.objs.size f cd::outer
 ex:=[]
 calm:=true
 fn:=λ_=>true
 pn:=[]
 xe:=λe s'=>wpAny (model P w) (A.deeper (envOfC qual scope s.heap.objs.size f cd)) (leaving (envOfC qual scope s.heap.objs.size f cd) e) (λ_ s''=>CX outer H s E e s'') (λe' s''=>CX outer H s E e' s'') s'
def B17{sc:Scope}{n:Nat}{x:Str}(h:sc.names.lookup x=some .cell): ∃c,(cellsFrom n sc.names []).lookup x=some c:=by have q:=PySem.W.cellsFrom_some sc.names n [] (.inl h);exact Kc.mp q
def B5r{CX:CXT}{P:Nk}{w:World}{K:Fg}{mg:MG}{base:Heap}{N ps:List Str}{qual:Str}{scope:Scope}{f:Nh}{cd:Nj}{A:Around}{outer:List Env}{s s1:Ni}{H:Hp}{E:XK}{us:List Nj}{vs:List V}(S:W8 N ps scope)(hd:A.handled=none)(e0:B2B P w K mg base A outer s H)(hl:vs.length=ps.length)(r:C9 vs us)(x:InCallC s s.heap.objs.size (bindL (envOfC qual scope s.heap.objs.size f cd).kindOf (ps.zip us) λ_=>none) (cellsFrom (s.heap.objs.size+1) scope.names []) (bindC (envOfC qual scope s.heap.objs.size f cd).kindOf (ps.zip us) λ_=>none) s1):
  C3 (B0l CX P w K mg base N qual scope f cd A outer s H E) [] (A0L N vs) H s1:=by
 have hpl:ps.length<=N.length:=by have:=Hm List.length S.pre;rw[Iv]at this;lia
 obtain⟨h1,tk,rfl,hk⟩:=x.done;have noA: ∀b:Nh,b∉(B0l CX P w K mg base N qual scope f cd A outer s H E).ex:=λb z=>Gn (show b∈([]:List Nh) from z) (by simp)
 refine⟨⟨e0.mod,S.kind,rfl,rfl,Gi _,λy z c h1 h2=>?_,λy hy=>?_,λy c _ h=>?_,λ_=>hd,Around.frames_deeper e0.frames,.inr ⟨rfl,rfl⟩,λb z=>Gn z (noA b),e0.bs,e0.bsz,λb _ _=>noA b,λb z=>Gn z (noA b),e0.funs,e0.frf⟩,
  rfl,e0.bare,Un.kept hk,⟨_,x.toInCall.ns,λi y v h1 h2 h3=>?_⟩,λy c h=>⟨_,x.cell y c h⟩,e0.hok.fresh (Gi _),λy c h=>?_,λp hp=>Gn (show p∈([]:List (Nh×Obj)) from hp) (by simp),e0.hok.kept hk,?_⟩
 ·exact name_of_addr x.apart (Hj h1) (Hj h2)
 ·have hy:scope.names.lookup y=some .cell\/scope.names.lookup y=some .free:=hy;rcases hy with hy|hy
  ·exact B17 hy
  ·exact Gn rfl (S.nofree _ (Hj hy))
 ·exact Kg (x.above y c (Hj h))
 ·have hi:i<vs.length:=by
   unfold A0L at h2;by_cases hi:i<vs.length
   ·exact hi
   ·rw[List.getElem?_append_right (by simpa using hi)]at h2;rw[List.getElem?_replicate]at h2;split at h2<;>cases h2
  have ha:vs[i]?=some v:=by
   unfold A0L at h2;rw[List.getElem?_append_left (by simpa using hi),Ha]at h2
   cases e:vs[i]? with
   |none=>rw[e]at h2;cases h2
   |some a=>rw[e]at h2;cases h2;rfl
  obtain⟨u,hu,rv⟩:=r.get ha;have hp:ps[i]?=some y:=by rw[<-S.pre,List.getElem?_take_of_lt (by lia)];exact h1
  have ndP:ps.Nodup:=by rw[<-S.pre];exact S.nd.sublist (List.take_sublist _ _)
  refine⟨u,rv,?_⟩;rcases S.par y (Gw hp) with k|k
  ·exact .inl ⟨k,A88 ndP hp hu k⟩
  ·obtain⟨c,e⟩:=B17 (n:=s.heap.objs.size+1) k;refine .inr ⟨.inl k,c,e,?_⟩;have q:=x.cell y c e;rw[A9a ndP hp hu (by show scope.names.lookup y≠_;rw[k];decide)]at q;exact q
 ·exact e0.hok.fresh (Kg (x.above y c (Hj h)))
 ·unfold A0L;show _=N.length;rw[Gg,Gz,List.length_replicate]
  lia
def C5o{CX:CXT}{P:Nk}{w:World}{K:Fg}{mg:MG}{base:Heap}{k:Nat}{f:Nh}{name qual:Str}{params:Arguments}{body:List Stmt}{scope:Scope}{dV kV doc pm cdv ct oc:Nj}{an od:Option Nh}{osl:Array (Option Nj)}{N ps:List Str}{sp:Sp}(lk:K.lookup f=some ⟨oc,od,.func (PySem.W.fnOf name qual params body scope dV kV doc pm an cdv ct),osl⟩)(hcd:PySem.W.codeIn K cdv qual=true)(S:W8 N ps scope)(len: ∀vs H Q E,sp vs H Q E->vs.length=ps.length)(hbody: ∀(A:Around)(outer:List Env)(s:Ni)(H:Hp)(vs:List V)(Q:VK)(E:XK),Q8 k (A.deeper (envOfC qual scope s.heap.objs.size f cdv))->sp vs H Q E->
   ∃t,PSs (B0l CX P w K mg base N qual scope f cdv A outer s H E) body t/\t {nx:=λ_ H'=>Q .non H',rt:=Q} (A0L N vs) H):
  A1t P w K mg base CX (k+1) f (PySem.W.fnOf name qual params body scope dV kV doc pm an cdv ct) ps sp:=by
 refine⟨len,λA outer s H args us vs Q E hr e0 hb r hsp=>?_⟩;have hl:=len _ _ _ _ hsp;have KX:K.In s.heap:=e0.mod.kin.keeps λb o e=>(e0.bs b o e).1;have lim:s.heap.NoLimit:=e0.mod.nolimit.keeps λb o e=>(e0.bs b o e).1;have hkind: ∀y∈ps.zip us,scope.names.lookup y.1=some .local\/(scope.names.lookup y.1=some .cell/\((cellsFrom (s.heap.objs.size+1) scope.names []).lookup y.1).isSome=true):=λ⟨n,v⟩ hy=>by
  rcases S.par n (List.of_mem_zip hy).1 with q|q
  ·exact .inl q
  ·exact .inr ⟨q,PySem.W.cellsFrom_some _ _ _ (.inl q)⟩
 refine codeAny_call_function hr.depth (KX _ _ lk) rfl S.co S.gen rfl (PySem.W.codeRec_of KX hcd) (hb _ _ _ _ ?_);refine wpAny_newFunctionEnv_cells S.kind hkind λenv he s1 x=>?_;subst he;refine⟨lim.keeps x.toInCall.keep,codeAny_func ?_⟩;obtain⟨t,ht,hq⟩:=hbody A outer s H vs Q E (hr.deeper _) hsp;have I:C3 (B0l CX P w K mg base N qual scope f cdv A outer s H E) [] (A0L N vs) H s1:=B5r S hr.hd e0 hl r x;refine wpAny_mono (ht [] s1 (A0L N vs) H _ I hq) (λfl s' hs=>?_) λe s' hs=>hs
 have P3: ∀{S':St}{H':Hp}{v:V}{u:Nj},C3 (B0l CX P w K mg base N qual scope f cdv A outer s H E) [] S' H' s'->D7 v u->Q v H'->CE outer P w H s Q u s':=
  λ{S' H' v u} J rv q=>⟨v,H',J.os,J.bare,J.base,J.hok,rv,q⟩
 cases fl with
 |ret u=>obtain⟨v,S',H',J,rv,q⟩:=hs;exact P3 J rv q
 |next=>obtain⟨S',H',J,q⟩:=hs;exact P3 (v:=V.non) (u:=Value.none) J rfl q
 |brk=>obtain⟨_,_,_,q⟩:=hs;exact Ik q
 |cont=>obtain⟨_,_,_,q⟩:=hs;exact Ik q
section
variable{X:Cx}{x:Str}{p pos:Pos}{e:Expr}{es:List Expr}{t:TA}{id T:String}{r:List V->Hp->VK->Prop}
def tCB(r:List V->Hp->VK->Prop)(t:TA):TE:=fun S H Q=>t S H λvs H1=>r vs H1 Q
def S7(hc:Y1 X (.builtin id) r)(hg:Gl X x)(hm:X.mg x=none)(hv:bootBuiltins x=some (.builtin id))(ha:PA X (e::es) t) (hn: ~~~(x≠"__name__")) (hdb: ~~~((x==("__debug__":Str))=false))
  (he:⇑(starEach (e::es) X.env=(false,eval e X.env)::starEach es X.env)) (hpl:⇑((backTo pos (starEach es X.env)).any (·.1)=false)):PE X (.Call (.Name x p) (e::es) [] pos) (tCB r t):=by
 intro pins s S H Q I h;refine wpAny_Call_Name_kw (A4p I hg hm hv ?_ hn hdb);exact PyProof.Rows.callWith_builtin1 (J9 (ha pos pins s S H _ I h) λus s1 ⟨vs,H1,I1,r1,q1⟩=>hc pins s1 S H1 vs us Q I1 r1 q1) he hpl
def A0Q(hc:Y1 X (.type T) r)(hg:Gl X x)(hm:X.mg x=none)(hv:bootBuiltins x=some (.type T))(ha:PA X (e::es) t) (hn: ~~~(x≠"__name__")) (hdb: ~~~((x==("__debug__":Str))=false))
  (he:⇑(starEach (e::es) X.env=(false,eval e X.env)::starEach es X.env)) (hpl:⇑((backTo pos (starEach es X.env)).any (·.1)=false)):PE X (.Call (.Name x p) (e::es) [] pos) (tCB r t):=by
 intro pins s S H Q I h;refine wpAny_Call_Name_kw (A4p I hg hm hv ?_ hn hdb);exact PyProof.Rows.callWith_type1 (J9 (ha pos pins s S H _ I h) λus s1 ⟨vs,H1,I1,r1,q1⟩=>hc pins s1 S H1 vs us Q I1 r1 q1) he hpl
end
end L2
namespace HT
open PySem PyProof.Rows
section
open PySem.SeqAt
open PySem.AutoSeq1 (wpAny_loadPart')
open PySem.MeetsSeq PySem.MeetsSeq2 PySem.MeetsSeq3
end
section
variable{prog:Nk}{w:World}{A:Around}{E:Nj->Ni->Prop}{s:Ni}
noncomputable def sIx(n d:Nat):Option Int->Nat
 |none=>d
 |some v=>if v<0 then(v+(n:Int)).toNat else min v.toNat n
def sIx_none(n d:Nat):sIx n d none=d:=rfl
def sIx_nat(n d k:Nat):sIx n d (some (k:Int))=min k n:=by show(if(k:Int)<0 then((k:Int)+(n:Int)).toNat else min (k:Int).toNat n)=min k n;rw[Gd (by lia),Je]
def sIx_le(n d:Nat)(hd:d<=n)(o:Option Int):sIx n d o<=n:=by
 cases o with
 |none=>exact hd
 |some v=>
  show(if v<0 then(v+(n:Int)).toNat else min v.toNat n)<=n;by_cases hv:v<0
  ·rw[Gf hv];lia
  ·rw[Gd hv];exact Nat.min_le_right _ _
end
end HT
namespace L2
open PySem PySem.Spec PyProof.Rows
abbrev TO:=St->Hp->(Option Int->Hp->Prop)->Prop
def PO(X:Cx)(e:Option Expr)(t:TO):Prop:=
 ∀(pins:List (Nh×Obj))(s:Ni)(S:St)(H:Hp)(Q:Option Int->Hp->Prop),C3 X pins S H s->t S H Q->
  wpAny (model X.prog X.w) X.A (evalPart e X.env) (λu s'=>∃o H',C3 X pins S H' s'/\IsPart u o/\Q o H') X.xe s
def B3R:TO:=λ_ H Q=>Q none H
def B6y(t:TE):TO:=fun S H Q=>t S H λx H1=>∃i,x=.int i/\Q (some i) H1
section
variable{X:Cx}{e:Expr}{te:TE}{lo hi:Option Expr}{tl th:TO}{pos p2:Pos}
def B9M:PO X none B3R:=by intro pins s S H Q I h;rw[evalPart_none];exact Gx ⟨none,H,I,.none,h⟩
def B9L(h:PE X e te):PO X (some e) (B6y te):=by intro pins s S H Q I hw;rw[evalPart_some];refine J9 (h pins s S H _ I hw) λu s1 ⟨x,H1,I1,r1,q1⟩=>?_;obtain⟨i,rfl,q⟩:=q1;obtain⟨t,rfl⟩:=r1;exact⟨some i,H1,I1,.int i t,q⟩
def SlR(X:Cx)(r:V->Option Int->Option Int->Hp->VK->Prop):Prop:=
 ∀(pins:List (Nh×Obj))(s:Ni)(S:St)(H:Hp)(x:V)(v vl vu:Nj)(lo hi:Option Int)(sl:Nh)(Q:VK),C3 X pins S H s->D7 x v->s.heap.IsSliceOf sl vl vu .none->IsPart vl lo->IsPart vu hi->r x lo hi H Q->
  ∃T id,typeLookup (.type T) "__getitem__"=pure (some (.builtin id))/\s.TypeIs v T/\wpAny (model X.prog X.w) X.A (getItem v (.ref sl)) (EP X pins S Q) X.xe s
def tSl(r:V->Option Int->Option Int->Hp->VK->Prop)(te:TE)(tl th:TO):TE:=fun S H Q=>te S H λx H1=>tl S H1 λl H2=>th S H2 λu H3=>r x l u H3 Q
def B7i{r:V->Option Int->Option Int->Hp->VK->Prop}(hr:SlR X r)(he:PE X e te)(hl:PO X lo tl)(hu:PO X hi th):PE X (.Subscript e (.Slice lo hi none p2) pos) (tSl r te tl th):=by intro pins s S H Q I h;refine Subscript_ (J9 (he pins s S H _ I h) λv s1 ⟨x,H1,I1,r1,q1⟩=>?_);refine wpAny_Slice (J9 (hl pins s1 S H1 _ I1 q1) λvl s2 ⟨l,H2,I2,pl,q2⟩=>J9 (hu pins s2 S H2 _ I2 q2) λvu s3 ⟨u,H3,I3,pu,q3⟩=>?_);rw[evalPart_none];refine Gx ?_;have I4:C3 X pins S H3 {s3 with heap:=s3.heap.push {cls:=.type "slice",data:=.fields #[vl,vu,.none]}}:=I3.kept (t':=s3.toks) λb ob q=>Gj _ q;obtain⟨T,id,hT,ht,hg⟩:=hr pins {s3 with heap:=s3.heap.push {cls:=.type "slice",data:=.fields #[vl,vu,.none]}} S H3 x v vl vu l u s3.heap.objs.size Q I4 r1 (Heap.IsSliceOf.new ..) pl pu q3;show wpAny (model X.prog X.w) X.A (subscriptTail e (.Slice lo hi none p2) v (.ref s3.heap.objs.size)) (EP X pins S Q) X.xe {s3 with heap:=s3.heap.push {cls:=.type "slice",data:=.fields #[vl,vu,.none]}};exact tail_any (ops:=[.ref s3.heap.objs.size,v]) ht hT hg (by with_unfolding_all rfl)
def A2t(xs:List V)(lo hi:Option Int):List V:=(xs.drop (HT.sIx xs.length 0 lo)).take (HT.sIx xs.length xs.length hi -HT.sIx xs.length 0 lo)
def B1Z(xs:List V)(lo hi:Option Int):(A2t xs lo hi).length<=xs.length:=by
 unfold A2t;rw[Iv,List.length_drop]
 lia
end
noncomputable def ixN(n:Nat)(i:Int):Option Nat:=if 0<=i then(if i<n then some i.toNat else none) else if -(n:Int)<=i then some (i+n).toNat else none
def atI{S:Type}(xs:List S)(i:Int):Option S:=(ixN xs.length i).bind λj=>xs[j]?
def B4j{n:Nat}{i:Int}{j:Nat}(h:ixN n i=some j):seqIndex? i n=some j/\j<n/\ -(n:Int)<=i/\i<n:=by
 unfold ixN at h;by_cases h0:0<=i
 ·rw[Gf h0]at h;by_cases h1:i<n
  ·rw[Gf h1]at h;have e:i.toNat=j:=Hf h;exact⟨by rw[seqIndex_of h0 h1,e],by lia,by lia,h1⟩
  ·rw[Gd h1]at h;cases h
 ·rw[Gd h0]at h;by_cases h1: -(n:Int)<=i
  ·rw[Gf h1]at h;have e:(i+n).toNat=j:=Hf h;exact⟨by rw[seqIndex_neg (by lia) h1,e],by lia,h1,by lia⟩
  ·rw[Gd h1]at h;cases h
def B0E{S:Type}{xs:List S}{i:Int}{v:S}(h:atI xs i=some v): ∃j,seqIndex? i xs.length=some j/\xs[j]?=some v/\j<xs.length/\ -(xs.length:Int)<=i/\i<xs.length:=by
 unfold atI at h
 cases e:ixN xs.length i with
 |none=>rw[e]at h;cases h
 |some j=>rw[e]at h;obtain⟨h1,h2,h3,h4⟩:=B4j e;exact⟨j,h1,h,h2,h3,h4⟩
def B8G{S:Type}(xs:List S)(v:S):atI (xs++[v]) (-1)=some v:=by
 have hl:(xs++[v]).length=xs.length+1:=by simp
 have e:ixN (xs++[v]).length (-1)=some xs.length:=by
  unfold ixN;rw[hl,Gd (by decide),Gf (by lia)];congr 1
  lia
 unfold atI;rw[e];show(xs++[v])[xs.length]?=some v;simp
def B4O(b:Expr):Prop:=∀o i,subscripted b false o i=operate [o,i] (getItem o i)
def IxR(X:Cx)(r:R2):Prop:=
 ∀(value slice:Expr)(pins:List (Nh×Obj))(s:Ni)(S:St)(H:Hp)(x y:V)(v u:Nj)(Q:VK),C3 X pins S H s->D7 x v->D7 y u->r x y H Q->
  subscripted slice false v u=operate [v,u] (getItem v u)->wpAny (model X.prog X.w) X.A (subscriptTail value slice v u) (EP X pins S Q) X.xe s
def MtR(X:Cx)(id:String)(r:V->List V->Hp->VK->Prop):Prop:=
 ∀(pins:List (Nh×Obj))(s:Ni)(S:St)(H:Hp)(x:V)(xs:List V)(v:Nj)(us:List Nj)(Q:VK),C3 X pins S H s->D7 x v->C9 xs us->r x xs H Q->
  wpAny (model X.prog X.w) X.A (call (.builtin id) (v::us)) (EP X pins S Q) X.xe s
section
variable{X:Cx}{a b:Expr}{ta tb:TE}{pos:Pos}
def C09{r:R2}(hr:IxR X r)(ha:PE X a ta)(hb:PE X b tb)(hs:B4O b):PE X (.Subscript a b pos) (tOp r ta tb):=by intro pins s S H Q I h;exact Subscript_ (C3e ha hb I h λv u s2 x y H2 I2 rx ry q=>hr a b pins s2 S H2 x y v u Q I2 rx ry q (hs _ _))
def C7k(K:Fg):R2:=λx y H Q=>∃p xs i v,x=.ref p/\y=.int i/\SqL K H p xs/\atI xs i=some v/\Q v H
def C7i(K:Fg):R2:=λx y H Q=>∃p xs i v,x=.ref p/\y=.int i/\SqT K H p xs/\atI xs i=some v/\Q v H
def C7j:R2:=λx y H Q=>∃z i c,x=.str z/\y=.int i/\z.length<=sizeLine/\atI z.cps.toList i=some c/\Q (.str ⟨#[c]⟩) H
def B4i:IxR X (C7k X.K):=by
 intro value slice pins s S H x y v u Q I rx ry h hs;obtain⟨p,xs,i,z,rfl,rfl,hq,he,q⟩:=h;cases rx;obtain⟨t,rfl⟩:=ry;obtain⟨its,r,pl,hz⟩:=I.list hq;obtain⟨j,h1,h2,h3,h4,h5⟩:=B0E he;obtain⟨w,ew,rw'⟩:=r.get h2;have hl:=r.length;have hn:=A4o;have P3:EP X pins S Q w s:=⟨z,H,I,rw',q⟩
 by_cases h0:0<=i
 ·have hj:i.toNat=j:=by rw[seqIndex_of h0 h5]at h1;exact Hf h1
  exact item_listR pl.isList h0 (by lia) (by rw[hj];simpa using ew) P3 hs
 ·have hj:(i+(its.toArray.size:Int)).toNat=j:=by rw[seqIndex_neg (by lia) h4]at h1;rw[Go,<-hl];exact Hf h1
  exact subscriptTail_builtinR (x:=w) pl.isList.typeIs slot_list_getitem.lookup
   (wpAny_getItem_list_neg (Q:=λr s'=>r=w/\EP X pins S Q r s') pl.isList (by lia) (by rw[Go]<;>lia) (by lia) (by rw[hj];simpa using ew) ⟨rfl,P3⟩) hs
def B7O:IxR X (C7i X.K):=by
 intro value slice pins s S H x y v u Q I rx ry h hs;obtain⟨p,xs,i,z,rfl,rfl,hq,he,q⟩:=h;cases rx;obtain⟨t,rfl⟩:=ry;obtain⟨its,r,pl,hz⟩:=I.tuple hq;obtain⟨j,h1,h2,h3,h4,h5⟩:=B0E he;obtain⟨w,ew,rw'⟩:=r.get h2;have hl:=r.length;have hn:=A4o;have P3:EP X pins S Q w s:=⟨z,H,I,rw',q⟩
 exact subscriptTail_builtinR (x:=w) pl.typeIs slot_tuple_getitem.lookup
  (getItem_tuple (j:=j) (Q:=λr s'=>r=w/\EP X pins S Q r s') pl (by lia) (by lia) (by rw[Go,<-hl];exact h1) (by simpa using ew) ⟨rfl,P3⟩) hs
def C2V:IxR X C7j:=by
 intro value slice pins s S H x y v u Q I rx ry h hs;obtain⟨z,i,c,rfl,rfl,hz,he,q⟩:=h;obtain⟨t,rfl⟩:=rx;obtain⟨t',rfl⟩:=ry;obtain⟨j,h1,h2,h3,h4,h5⟩:=B0E he;have hl:z.cps.toList.length=z.length:=by simp[Str.length]
 rw[hl]at h1 h4 h5;have hn:=A4o;exact tail_any (typeIs_str s z t) slot_str_getitem.lookup (getItem_str (c:=c) (by have e1:decide (i< -(2^63:Int))=false:=Hk (by lia);have e2:decide (i≥2^63)=false:=Hk (by lia);rw[e1,e2,Bool.or_false]) (by rw[h1];simpa using h2) ⟨.str ⟨#[c]⟩,H,I.tok _,⟨_,rfl⟩,q⟩) hs
def B27(its:List Nj)(n j:Nat)(u:Nj):Obj.mapSeq (·.setIfInBounds j u) {cls:=.type "list",data:=.seq its.toArray n}={cls:=.type "list",data:=.seq (its.set j u).toArray n}:=by simp[Obj.mapSeq]
def C3.lst(I:C3 X pins S H s)(h:H p=some (.lst xs)):
  ∃(its:List Nj)(n:Nat),C9 xs its/\s.heap.get? p=some {cls:=.type "list",data:=.seq its.toArray n}/\xs.length<=sizeLine:=by
 obtain⟨z,its,n,r,e⟩:=I.hok p _ h;exact⟨its,n,r,e,z⟩
def C3.lstUpd{pins:List (Nh×Obj)}{S:St}{H:Hp}{s:Ni}{p:Nh}{xs ys:List V}{its its':List Nj}{n n':Nat}{f:Obj->Obj}(I:C3 X pins S H s)(h:H p=some (.lst xs))
  (ho:s.heap.get? p=some {cls:=.type "list",data:=.seq its.toArray n}) (hf:f {cls:=.type "list",data:=.seq its.toArray n}={cls:=.type "list",data:=.seq its'.toArray n'}) (r:C9 ys its') (hz:ys.length<=sizeLine) (t:Nat):
  C3 X pins S (upd H p (.lst ys)) {s with heap:=s.heap.update p f,toks:=t}:=by
 have e:(s.heap.update p f).get? p=some {cls:=.type "list",data:=.seq its'.toArray n'}:=by rw[Ko f ho (by rw[hf]<;>rfl),hf]
 refine I.write (x:=p) (e:=p) (by rw[h];trivial) (.inl rfl) (λb u hb q=>(Kj _ _ (Ii hb)).trans q) ⟨_,e⟩ ?_;exact⟨hz,its',n',r,e⟩
def C05:V->V->V->Hp->(Hp->Prop)->Prop:=λo i v H Q=>∃p xs k j,o=.ref p/\i=.int k/\H p=some (.lst xs)/\ixN xs.length k=some j/\Q (upd H p (.lst (xs.set j v)))
def B6P:C5x X C05:=by
 intro pins s S H o i v ov iv u Q I ro ri rv h;obtain⟨p,xs,k,j,rfl,rfl,hp,hj,q⟩:=h;cases ro;obtain⟨t,rfl⟩:=ri;obtain⟨its,n,r,ho,hz⟩:=I.lst hp;obtain⟨h1,h2,h3,h4⟩:=B4j hj;have hl:=r.length;have hn:=A4o
 have I':C3 X pins S (upd H p (.lst (xs.set j v))) {s with heap:=s.heap.update p (Obj.mapSeq (·.setIfInBounds j u))}:=
  I.lstUpd hp ho (B27 its n j u) (r.set rv j) (by rw[List.length_set];exact hz) s.toks
 by_cases h0:0<=k
 ·have hk:k.toNat=j:=by rw[seqIndex_of h0 h4]at h1;exact Hf h1
  exact PySem.W.ki_setAt ho h0 (by lia) (by rw[Go,<-hl];exact h4) (by rw[hk];exact⟨_,I',q⟩)
 ·have hk:(k+(its.toArray.size:Int)).toNat=j:=by rw[seqIndex_neg (by lia) h3]at h1;rw[Go,<-hl];exact Hf h1
  exact PySem.W.ki_setBack ho (by lia) (by rw[Go,<-hl];exact h3) (by lia) (by rw[hk];exact⟨_,I',q⟩)
def A90(lo hi:Option Int)(n:Nat):(sliceBounds lo hi none n).1=((HT.sIx n 0 lo:Nat):Int)/\(sliceBounds lo hi none n).2.1=((HT.sIx n n hi:Nat):Int)/\(sliceBounds lo hi none n).2.2=1:=by
 refine⟨?_,?_,rfl⟩
 ·cases lo with
  |none=>simp[sliceBounds,HT.sIx]
  |some i=>
   dsimp[sliceBounds,HT.sIx,Option.getD_none,show(1:Int)>0 by decide,if_true];by_cases h:i<0
   ·dsimp[h,if_true]<;>lia
   ·dsimp[h,if_false]<;>lia
 ·cases hi with
  |none=>simp[sliceBounds,HT.sIx]
  |some i=>
   dsimp[sliceBounds,HT.sIx,Option.getD_none,show(1:Int)>0 by decide,if_true];by_cases h:i<0
   ·dsimp[h,if_true]<;>lia
   ·dsimp[h,if_false]<;>lia
def A7L(its:List Nj)(lo hi:Option Int):slicePick its.toArray lo hi none=((its.drop (HT.sIx its.length 0 lo)).take (HT.sIx its.length its.length hi -HT.sIx its.length 0 lo)).toArray:=by obtain⟨h1,h2,h3⟩:=A90 lo hi its.toArray.size;unfold slicePick;rw[h1,h2,h3];dsimp[sliceRange_one,pick_run,Go]<;>rfl
def C7g(K:Fg):V->Option Int->Option Int->Hp->VK->Prop:=λx lo hi H Q=>∃a xs,x=.ref a/\SqL K H a xs/\∀p,H p=none->Q (.ref p) (upd H p (.lst (A2t xs lo hi)))
def B3X:SlR X (C7g X.K):=by intro pins s S H x v vl vu lo hi sl Q I rx hs pl pu h;obtain⟨a,xs,rfl,hx,q⟩:=h;cases rx;obtain⟨its,r,ht,hz⟩:=I.list hx;have hlen:=r.length;refine⟨"list",_,slot_list_getitem.lookup,ht.isList.typeIs,?_⟩;refine wpAny_getItem_list_slice ht.isList hs pl pu .none (by simp) ?_ (by rw[Go]<;>lia);rw[A7L,<-hlen];refine⟨.ref s.heap.objs.size,_,I.laid (t':=s.toks) (o:=.lst (A2t xs lo hi)) (λb ob q=>Gj _ q) (Gi _) ?_,rfl,q _ (I.hok.fresh (Gi _))⟩;exact⟨Hc (B1Z xs lo hi) hz,_,0,(r.drop (HT.sIx xs.length 0 lo)).take (HT.sIx xs.length xs.length hi -HT.sIx xs.length 0 lo),Hb _ rfl⟩
def Y5:V->Bool
 |.non=>true
 |.bl _=>true
 |.int _=>true
 |.str _=>true
 |_=>false
noncomputable def eqV:V->V->Bool
 |.non,.non=>true
 |.bl a,.bl b=>a==b
 |.bl a,.int b=>(if a then 1 else 0)==b
 |.int a,.bl b=>a==(if b then 1 else 0)
 |.int a,.int b=>a==b
 |.str a,.str b=>a==b
 |_,_=>false
def C22(ry:D7 y u)(rx:D7 x v)(fy:Y5 y=true)(fx:Y5 x=true):SeqAt.EqAt A s u v (eqV y x):=by
 cases y with
 |non=>
  cases ry
  cases x with
  |non=>cases rx;exact SeqAt.EqAt.same _
  |bl b=>cases rx;exact SeqAt.EqAt.none_bool b
  |int b=>obtain⟨t,rfl⟩:=rx;exact SeqAt.EqAt.none_int b t
  |str b=>obtain⟨t,rfl⟩:=rx;exact SeqAt.EqAt.none_str b t
  |_=>exact Gn (show false=true from fx) Gs
 |bl a=>
  cases ry
  cases x with
  |non=>cases rx;exact SeqAt.EqAt.bool_none a
  |bl b=>cases rx;exact SeqAt.EqAt.bool_bool a b
  |int b=>obtain⟨t,rfl⟩:=rx;exact SeqAt.EqAt.bool_int a b t
  |str b=>obtain⟨t,rfl⟩:=rx;exact SeqAt.EqAt.bool_str a b t
  |_=>exact Gn (show false=true from fx) Gs
 |int a=>
  obtain⟨t',rfl⟩:=ry
  cases x with
  |non=>cases rx;exact SeqAt.EqAt.int_none a t'
  |bl b=>cases rx;exact SeqAt.EqAt.int_bool a t' b
  |int b=>obtain⟨t,rfl⟩:=rx;exact SeqAt.EqAt.int_int a t' b t
  |str b=>obtain⟨t,rfl⟩:=rx;exact SeqAt.EqAt.int_str a t' b t
  |_=>exact Gn (show false=true from fx) Gs
 |str a=>
  obtain⟨t',rfl⟩:=ry
  cases x with
  |non=>cases rx;exact SeqAt.EqAt.str_none a t'
  |bl b=>cases rx;exact SeqAt.EqAt.str_bool a t' b
  |int b=>obtain⟨t,rfl⟩:=rx;exact SeqAt.EqAt.str_int a t' b t
  |str b=>obtain⟨t,rfl⟩:=rx;exact SeqAt.EqAt.str_str a t' b t
  |_=>exact Gn (show false=true from fx) Gs
 |_=>exact Gn (show false=true from fy) Gs
noncomputable def eqU(x:V)(u:Nj):Bool:=match u with
 |.none=>eqV .non x
 |.bool b=>eqV (.bl b) x
 |.int i _=>eqV (.int i) x
 |.str z _=>eqV (.str z) x
 |_=>false
def B8g(r:D7 y u)(f:Y5 y=true):eqU x u=eqV y x:=by
 cases y with
 |non=>cases r;rfl
 |bl b=>cases r;rfl
 |int i=>obtain⟨t,rfl⟩:=r;rfl
 |str z=>obtain⟨t,rfl⟩:=r;rfl
 |_=>exact Gn (show false=true from f) Gs
theorem B0F: ∀{xs:List V}{us:List Nj},C9 xs us->xs.all Y5=true->us.any (eqU x)=xs.any λy=>eqV y x
 |_,_,.nil,_=>rfl
 |y::xs,u::us,.cons r t,f=>by rw[Ih,Ga]at f;rw[Ig,Ig,B8g r f.1,B0F t f.2]
theorem A6p(rx:D7 x v)(fx:Y5 x=true): ∀{xs:List V}{us:List Nj},C9 xs us->xs.all Y5=true->∀u∈us,SeqAt.EqAt A s u v (eqU x u)
 |_,_,.nil,_=>λu hu=>by cases hu
 |y::xs,u::us,.cons r t,f=>λu' hu=>by
  rw[Ih,Ga]at f;rcases Gk.mp hu with rfl|hu
  ·rw[B8g r f.1];exact C22 r rx f.1 fx
  ·exact A6p rx fx t f.2 u' hu
def inV(x:V)(xs:List V):Bool:=xs.any λy=>eqV y x
def rIn(K:Fg)(neg:Bool):R2:=λx y H Q=>∃p xs,y=.ref p/\(SqL K H p xs\/SqT K H p xs)/\Y5 x=true/\xs.all Y5=true/\Q (.bl (if neg then !inV x xs else inV x xs)) H
def A8w:OpR X (compareOp .In) (rIn X.K false):=by
 intro pins s S H x y v u Q I rx ry h;obtain⟨p,xs,rfl,hq,fx,fs,q⟩:=h;cases ry;rcases hq with hq|hq
 ·obtain⟨its,r,pl,hz⟩:=I.list hq;refine SeqAt.in_listAt (eqU x) pl.isList (λw hw=>A6p rx fx r fs w (by simpa using hw)) ⟨.bl _,H,I,rfl,?_⟩;rw[show its.toArray.any (eqU x)=its.any (eqU x) by simp,B0F r fs];exact q
 ·obtain⟨its,r,pl,hz⟩:=I.tuple hq;refine SeqAt.in_tupleAt (eqU x) pl (λw hw=>A6p rx fx r fs w (by simpa using hw)) ⟨.bl _,H,I,rfl,?_⟩;rw[show its.toArray.any (eqU x)=its.any (eqU x) by simp,B0F r fs];exact q
def Z4:Y1 X (.builtin "len") (λxs H Q=>∃p ys,xs=[.ref p]/\(SqL X.K H p ys\/SqT X.K H p ys)/\Q (.int ys.length) H):=by
 intro pins s S H xs us Q I r h;obtain⟨p,ys,rfl,hq,q⟩:=h;obtain⟨u,rfl,rx⟩:=A4I r;cases rx;have hn:=A4o;rcases hq with hq|hq
 ·obtain⟨its,r',pl,hz⟩:=I.list hq;have hlen:=r'.length;exact Calls.call_len_list pl.isList (by dsimp[Go]<;>lia) ⟨.int ys.length,H,I.tok _,⟨s.toks+1,by rw[Go,hlen]⟩,q⟩
 ·obtain⟨its,r',pl,hz⟩:=I.tuple hq;have hlen:=r'.length;exact len_tuple pl (by dsimp[Go]<;>lia) ⟨.int ys.length,H,I.tok _,⟨s.toks+1,by rw[Go,hlen]⟩,q⟩
def B0p:Y1 X (.builtin "len") (λxs H Q=>∃z,xs=[.str z]/\z.length<=sizeLine/\Q (.int z.length) H):=by intro pins s S H xs us Q I r h;obtain⟨z,rfl,hz,q⟩:=h;obtain⟨u,rfl,t,rfl⟩:=A4I r;have hn:=A4o;exact len_str (by lia) ⟨.int z.length,H,I.tok _,⟨_,rfl⟩,q⟩
def B0o:Y1 X (.type "list") (λxs H Q=>∃p ys,xs=[.ref p]/\(SqL X.K H p ys\/SqT X.K H p ys)/\∀l,H l=none->Q (.ref l) (upd H l (.lst ys))):=by
 intro pins s S H xs us Q I r h;obtain⟨p,ys,rfl,hq,q⟩:=h;obtain⟨u,rfl,rx⟩:=A4I r;cases rx
 have P3: ∀(its:List Nj),C9 ys its->ys.length<=sizeLine->∀(h':Heap)(c':Nat),(∀b o',s.heap.get? b=some o'->h'.get? b=some o')->
   h'.get? s.heap.objs.size=some {cls:=.type "list",dict:=none,data:=.seq its.toArray c',slots:= #[]}->EP X pins S Q (.ref s.heap.objs.size) {s with heap:=h'}:=λits r' hz h' c' kp e=>
  ⟨.ref s.heap.objs.size,_,I.laid (t':=s.toks) kp (Gi _) (show N6 X.prog X.w _ h' _ (.lst ys) from⟨hz,its,c',r',e⟩),rfl,q _ (I.hok.fresh (Gi _))⟩
 rcases hq with hq|hq
 ·obtain⟨its,r',pl,hz⟩:=I.list hq;have hlen:=r'.length;obtain⟨o,ho,hc,n,hd⟩:=pl.isList;exact call_list_seq p (.inl rfl) ho hc hd (λh' c' kp e=>P3 its r' hz h' c' kp e) (by dsimp[Go]<;>lia)
 ·obtain⟨its,r',pl,hz⟩:=I.tuple hq;have hlen:=r'.length;obtain⟨o,ho,hc,n,hd⟩:=pl;exact call_list_seq p (.inr rfl) ho hc hd (λh' c' kp e=>P3 its r' hz h' c' kp e) (by dsimp[Go]<;>lia)
def A74:Y1 X (.type "tuple") (λxs H Q=>∃p ys,xs=[.ref p]/\((SqL X.K H p ys/\∀l,H l=none->Q (.ref l) (upd H l (.tup ys)))\/(SqT X.K H p ys/\Q (.ref p) H))):=by
 intro pins s S H xs us Q I r h;obtain⟨p,ys,rfl,h⟩:=h;obtain⟨u,rfl,rx⟩:=A4I r;cases rx;rcases h with⟨hq,q⟩|⟨hq,q⟩
 ·obtain⟨its,r',pl,hz⟩:=I.list hq;have hlen:=r'.length;refine call_tuple_list pl.isList (λh' kp=>?_) (by dsimp[Go]<;>lia);have I1:C3 X pins S H {s with heap:=h'}:=I.kept (t':=s.toks) kp
  have I2:C3 X pins S (upd H h'.objs.size (.tup ys)) {s with heap:=h'.push {cls:=.type "tuple",data:=.seq its.toArray}}:=
   I1.laid (t':=s.toks) (λb o e=>Gj _ e) (Gi _) (show N6 X.prog X.w _ _ _ (.tup ys) from⟨hz,its,r',IsTup.new _ _⟩)
  exact⟨.ref h'.objs.size,_,I2,rfl,q _ (I1.hok.fresh (Gi _))⟩
 ·obtain⟨its,r',pl,hz⟩:=I.tuple hq;exact call_tuple_same pl ⟨.ref p,H,I,rfl,q⟩
def tyV(K:Fg)(T:String)(x:V)(H:Hp):Prop:=match x with
 |.str _=>T="str"
 |.int _=>T="int"
 |.ref p=>(T="list"/\∃xs,SqL K H p xs)\/(T="tuple"/\∃o,K.lookup p=some o/\o.cls=.type "tuple"/\o.dict=none)\/
   (T="dict"/\((∃kvs,H p=some (.dK kvs))\/∃kvs,H p=some (.dT kvs)))\/(T="set"/\∃S n,H p=some (.set S n))
 |_=>False
def B6u{T:String}(I:C3 X pins J H s)(r:D7 x v)(ty:tyV X.K T x H):
  s.TypeIs v T/\∀a,v=.ref a->∃ob,s.heap.get? a=some ob/\ob.dict=none:=by
 cases x with
 |str z=>obtain⟨t,rfl⟩:=r;cases (show T="str" from ty);exact⟨typeIs_str s z t,λ_ e=>nomatch e⟩
 |int i=>obtain⟨t,rfl⟩:=r;cases (show T="int" from ty);exact⟨typeIs_int s i t,λ_ e=>nomatch e⟩
 |ref p=>
  cases r;rcases ty with⟨rfl,xs,hq⟩|⟨rfl,o,hk,hc,hd⟩|⟨rfl,hk⟩|⟨rfl,S,n,hk⟩
  ·obtain⟨its,_,pl,_⟩:=I.list hq;refine⟨pl.isList.typeIs,λa e=>?_⟩;cases e;obtain⟨o,n,e,c,hd,_⟩:=pl;exact⟨o,e,hd⟩
  ·refine⟨⟨o,I.kIn p o hk,hc⟩,λa e=>?_⟩;cases e;exact⟨o,I.kIn _ o hk,hd⟩
  ·have z: ∃o,s.heap.get? p=some o/\o.ExactDict:=by
    rcases hk with⟨kvs,hk⟩|⟨kvs,hk⟩
    ·obtain⟨_,_,_,_,o,_,_,e,ex,_⟩:=I.hok p _ hk;exact⟨o,e,ex⟩
    ·obtain⟨_,_,_,_,o,_,_,e,ex,_⟩:=I.hok p _ hk;exact⟨o,e,ex⟩
   obtain⟨o,e,ex⟩:=z;refine⟨⟨o,e,ex.1⟩,λa e2=>?_⟩;cases e2;exact⟨o,e,ex.2.1⟩
  ·obtain⟨o,_,_,_,e,ex,_⟩:=I.hok p _ hk;refine⟨⟨o,e,ex.1⟩,λa e2=>?_⟩;cases e2;exact⟨o,e,ex.2.1⟩
 |_=>exact Ik ty
def C60(K:Fg)(T:String)(r:V->List V->Hp->VK->Prop)(to:TE):TE:=fun S H Q=>to S H λx H1=>tyV K T x H1/\r x [] H1 Q
def tBM(K:Fg)(T:String)(r:V->List V->Hp->VK->Prop)(to:TE)(t:TA):TE:=fun S H Q=>to S H λx H1=>tyV K T x H1/\t S H1 λxs H2=>r x xs H2 Q
variable{o e:Expr}{es:List Expr}{to:TE}{t:TA}{name:Str}{apos cpos:Pos}{T id:String}{r:V->List V->Hp->VK->Prop}
def C2p(pa:PlainAttrs T)(slot:Slot T name id) (hty:typeOf (.builtin id)=pure (.type "method_descriptor")) (hm:MtR X id r) (ho:PE X o to)
  (hbase:⇑(attributeBase o name X.env (eval o X.env)=eval o X.env)) (hline:⇑((apos.endLine==cpos.line)=true)):PE X (.Call (.Attribute o name apos) [] [] cpos) (C60 X.K T r to):=by
 intro pins s S H Q I h;refine wpAny_Call_method0_late hbase hline (J9 (ho pins s S H _ I h) λv s1 ⟨x,H1,I1,r1,ty,q1⟩=>?_);obtain⟨h1,h2⟩:=B6u I1 r1 ty;exact⟨T,id,pa,slot,hty,h1,h2,Calls.callWith_builtin rfl (PySem.evalArgs_none (hm pins s1 S H1 x [] v [] Q I1 r1 .nil q1))⟩
def B36(pa:PlainAttrs T)(slot:Slot T name id) (hty:typeOf (.builtin id)=pure (.type "method_descriptor")) (hm:MtR X id r) (ho:PE X o to) (ha:PA X (e::es) t)
  (hbase:⇑(attributeBase o name X.env (eval o X.env)=eval o X.env))
  (hfew:((backTo cpos (starEach (e::es) X.env)).all (λx=>!x.1)&&(backToKw cpos (keywordEach [] X.env)).all (λx=>x.1.isSome)
   &&decide ((e::es).length+([]:List Keyword).length+(if([]:List Keyword).isEmpty then 0 else 1)<30))=true:=by rfl)
  (hline:⇑((apos.endLine==cpos.line)=true)) (hs:⇑(starEach (e::es) X.env=(false,eval e X.env)::starEach es X.env)) (hplain:⇑((backTo cpos (starEach es X.env)).any (·.1)=false)):
  PE X (.Call (.Attribute o name apos) (e::es) [] cpos) (tBM X.K T r to t):=by
 intro pins s S H Q I h;refine wpAny_Call_method_late hbase hfew hline rfl (J9 (ho pins s S H _ I h) λv s1 ⟨x,H1,I1,r1,ty,q1⟩=>?_);obtain⟨h1,h2⟩:=B6u I1 r1 ty;refine⟨T,id,pa,slot,hty,h1,h2,?_⟩;have hA:=ha cpos pins s1 S H1 _ I1 q1;rw[hs]at hA ⊢;refine Calls.callWith_builtin (by show(false||(backTo cpos (starEach es X.env)).any (·.1))=false;rw[hplain]<;>rfl) (Calls.evalArgs_plain ?_);exact J9 hA λus s2 ⟨vs,H2,I2,r2,q2⟩=>hm pins s2 S H2 x vs v us Q I2 r1 r2 q2
end
def MtM(X:Cx)(id:String)(r:V->List V->Hp->VK->Prop):Prop:=
 ∀(pins:List (Nh×Obj))(s:Ni)(S:St)(H:Hp)(x:V)(xs:List V)(v:Nj)(us:List Nj)(Q:VK),C3 X pins S H s->D7 x v->C9 xs us->r x xs H Q->
  wpAny (model X.prog X.w) X.A (call (.builtin id) (v::us)) (EP X pins S Q) X.xe s
def C9.one: ∀{x:V}{us:List Nj},C9 [x] us->∃u,us=[u]/\D7 x u:=by intro x us h;cases h with|cons r t=>cases t;exact⟨_,rfl,r⟩
def C9.zero: ∀{us:List Nj},C9 [] us->us=[]
 |_,.nil=>rfl
def C9.dropLast(h:C9 xs us):C9 xs.dropLast us.dropLast:=by
 induction h with
 |nil=>exact .nil
 |cons r t ih=>
  cases t with
  |nil=>exact .nil
  |cons q t'=>exact .cons r ih
def C9.reverse(h:C9 xs us):C9 xs.reverse us.reverse:=by
 induction h with
 |nil=>exact .nil
 |cons r t ih=>rw[Iy,Iy];exact C9.append ih (.cons r .nil)
def B3n{S:Type}(l:List S):l.eraseIdx (l.length -1)=l.dropLast:=by
 induction l with
 |nil=>rfl
 |cons a r ih=>
  cases r with
  |nil=>rfl
  |cons b r=>
   have e:(a::b::r).length -1=((b::r).length -1)+1:=by
    have h1:(a::b::r).length=r.length+2:=rfl;have h2:(b::r).length=r.length+1:=rfl
    lia
   rw[e,List.eraseIdx_cons_succ,ih]
   all_goals rfl
section
variable{X:Cx}{pins:List (Nh×Obj)}{S:St}{H:Hp}{s:Ni}{l b:Nh}{xs ys zs:List V}
def C3.lset{its its':List Nj}{n:Nat}{f:Array Nj->Array Nj}{t':Nat}(I:C3 X pins S H s)(hH:H l=some (.lst xs))
  (e:s.heap.get? l=some {cls:=.type "list",data:=.seq its.toArray n}) (hf:f its.toArray=its'.toArray) (hv:C9 ys its') (hz:ys.length<=sizeLine):
  C3 X pins S (upd H l (.lst ys)) {s with heap:=s.heap.update l (Obj.mapSeq f),toks:=t'}:=by
 have q:=PySem.IsL.update e f;rw[hf]at q;refine I.write (x:=l) (e:=l) (by rw[hH];exact trivial) (.inl rfl) (λb' u hb hu=>(Kj s.heap (Obj.mapSeq f) (Ii hb)).trans hu) ⟨_,q⟩ ?_;exact⟨hz,its',_,hv,q⟩
def C3.lnew{t':Nat}(I:C3 X pins S H s)(hv:C9 ys its)(hz:ys.length<=sizeLine):
  C3 X pins S (upd H s.heap.objs.size (.lst ys)) {s with heap:=s.heap.push {cls:=.type "list",data:=.seq its.toArray},toks:=t'}:=
 I.laid (λ_ _ q=>Gj _ q) (Gi _) ⟨hz,its,0,hv,Hb _ rfl⟩
def C3.fresh(I:C3 X pins S H s):H s.heap.objs.size=none:=I.hok.fresh (Gi _)
def C3.lstM(I:C3 X pins S H s)(hH:H l=some (.lst xs)):xs.length<=sizeLine/\∃(its:List Nj)(n:Nat),C9 xs its/\xs.length=its.length/\s.heap.get? l=some {cls:=.type "list",data:=.seq its.toArray n}:=by obtain⟨z,its,n,r,e⟩:=I.hok l _ hH;exact⟨z,its,n,r,r.length,e⟩
def B7B{n:Nat}(h:n<=sizeLine):Builtin.List.listTooLong n=false:=by unfold Builtin.List.listTooLong;exact Hk (by lia)
end
section
variable{X:Cx}
def B9z:V->List V->Hp->VK->Prop:=λx vs H Q=>∃l xs y,x=.ref l/\vs=[y]/\H l=some (.lst xs)/\xs.length<sizeLine/\Q .non (upd H l (.lst (xs++[y])))
def B5f:MtM X "list.append" B9z:=by
 intro pins s S H x vs v us Q I rx rv h;obtain⟨l,xs,y,rfl,rfl,hH,hz,q⟩:=h;cases rx;obtain⟨u,rfl,ru⟩:=rv.one;obtain⟨z,its,n,r,hl,e⟩:=I.lstM hH;refine call_meets F.slot_list_append ⟨_,e,rfl⟩ F.entry_list_append (F.args_list_append_2 _ _) (PySem.list_append l its.toArray n u (by rw[Go];lia)) ⟨e,?_⟩;refine⟨.non,_,I.lset (its':=its++[u]) hH e (by simp) (r.append (.cons ru .nil)) ?_,rfl,q⟩;rw[Gg,Km]
 lia
def C7h:V->List V->Hp->VK->Prop:=λx vs H Q=>∃l xs y,x=.ref l/\vs=[]/\H l=some (.lst xs)/\xs[xs.length -1]?=some y/\Q y (upd H l (.lst xs.dropLast))
def C2D:MtM X "list.pop" C7h:=by
 intro pins s S H x vs v us Q I rx rv h;obtain⟨l,xs,y,rfl,rfl,hH,hy,q⟩:=h;cases rx;have hus:=rv.zero;subst hus;obtain⟨z,its,n,r,hl,e⟩:=I.lstM hH;obtain⟨u,hu,ru⟩:=r.get hy;have hy':its.toArray[its.toArray.size -1]?=some u:=by show its.toArray[its.length -1]?=some u;rw[<-Kq,<-hl];exact hu
 refine call_meets F.slot_list_pop ⟨_,e,rfl⟩ F.entry_list_pop (F.args_list_pop_1 _) (MeetsSeq.list_pop_last l its.toArray n u hy' (by rw[Go];lia)) ⟨e,?_⟩;refine⟨y,_,I.lset (its':=its.dropLast) hH e ?_ r.dropLast ?_,ru,q⟩
 ·show its.toArray.eraseIdxIfInBounds (its.toArray.size -1)=its.dropLast.toArray;rw[Go,List.eraseIdxIfInBounds_toArray,B3n]
 ·rw[List.length_dropLast]
  lia
def C7l:R2:=λx y H Q=>∃l b xs zs,x=.ref l/\y=.ref b/\H l=some (.lst xs)/\H b=some (.lst zs)/\xs.length+zs.length<=sizeLine/\∀p,H p=none->Q (.ref p) (upd H p (.lst (xs++zs)))
def C2x:OpR X (binaryOp .Add) C7l:=by
 intro pins s S H x y v u Q I rx ry h;obtain⟨l,b,xs,zs,rfl,rfl,hH,hB,hz,q⟩:=h;cases rx;cases ry;obtain⟨z,its,n,r,hl,e⟩:=I.lstM hH;obtain⟨z2,its2,n2,r2,hl2,e2⟩:=I.lstM hB;refine PySem.P.add_list e e2 ?_ (by rw[Go,Go];lia);have ea:its.toArray++its2.toArray=(its++its2).toArray:=by simp
 rw[ea];exact⟨.ref _,_,I.lnew (t':=s.toks) (r.append r2) (by rw[Gg];lia),rfl,q _ I.fresh⟩
end
section
variable{prog:Nk}{w:World}{A:Around}{E:Nj->Ni->Prop}{s:Ni}
set_option maxRecDepth 100000 in
end
section
variable{X:Cx}
end
theorem C9.bls: ∀{bs:List Bool}{us:List Nj},C9 (bs.map V.bl) us->us=bs.map Value.bool
 |[],us,h=>by rw[Ij]at h;cases h;rfl
 |b::bs,us,h=>by
  rw[Gm]at h
  cases h with
  |cons r t=>cases r;rw[C9.bls t,Gm]
def C9.ref1(r:C9 [V.ref a] us):us=[Value.ref a]:=by
 cases r with
 |cons r t=>cases t;cases r;rfl
section
variable{prog:Nk}{w:World}{A:Around}{E:Nj->Ni->Prop}{s:Ni}{l:Nh}{its:List Nj}{ns:List Int}{Q:Nj->Ni->Prop}
end
section
variable{X:Cx}
end
def B1D{items:Array Nj}(hl:s.heap.IsList l items)
  (h: ∀s2:Ni,s2={s with heap:=s.heap.push {cls:=.type "list_iterator",data:=.fields #[.ref l,.int 0 0]}}->
   (s2.heap.IsListIter s.heap.objs.size l 0/\s2.heap.IsList l items)->l≠s.heap.objs.size->Q (.ref s.heap.objs.size) s2):wpAny (model prog w) A (pyIter (.ref l)) Q E s:=by
 have hlt:l<s.heap.objs.size:=by obtain⟨_,e,_⟩:=hl;exact Gu e
 exact wpAny_pyIter_list hl (h _ rfl ⟨⟨_,Hb _ rfl,rfl,rfl⟩,hl.push _⟩ (Hn hlt))
def A4J{bs:List Bool}(e:its=bs.map Value.bool):
  TruthOf prog w A (λi v=>its.toArray[i]?=some v) (λi=>bs.getD i false):=λi v s Q E hv hq=>by
 have hv':its[i]?=some v:=by simpa using hv
 rw[e,Ha]at hv';obtain⟨b,hb,rfl⟩:=Hh.mp hv';have hg:bs.getD i false=b:=by rw[List.getD_eq_getElem?_getD,hb]<;>rfl
 have hq':Q (bs.getD i false) s:=hq;rw[hg]at hq';exact wpAny_truthy_bool hq'
theorem A9r: ∀bs:List Bool,(List.range bs.length).any (λi=>bs.getD i false)=bs.any id
 |[]=>rfl
 |b::bs=>by
  rw[Ge,List.range_succ_eq_map,Ig,List.any_map,Ig,<-A9r bs]
  all_goals rfl
theorem A9s: ∀bs:List Bool,(List.range bs.length).all (λi=>bs.getD i false)=bs.all id
 |[]=>rfl
 |b::bs=>by
  rw[Ge,List.range_succ_eq_map,Ih,List.all_map,Ih,<-A9s bs]
  all_goals rfl
section
variable{X:Cx}
def C7m(K:Fg):List V->Hp->VK->Prop:=λvs H Q=>∃(a:Nh)(bs:List Bool),vs=[V.ref a]/\SqL K H a (bs.map V.bl)/\Q (.bl (bs.any id)) H
def C7n(K:Fg):List V->Hp->VK->Prop:=λvs H Q=>∃(a:Nh)(bs:List Bool),vs=[V.ref a]/\SqL K H a (bs.map V.bl)/\Q (.bl (bs.all id)) H
def C26(hc:X.calm=true):Y1 X (.builtin "any") (C7m X.K):=by
 intro pins s S H vs us Q I r h;obtain⟨a,bs,rfl,hs,q⟩:=h;obtain⟨its,rv,hl,_⟩:=I.list hs;rw[C9.ref1 r];have hb:=rv.bls;refine call_any_walk (B1D hl.isList λs2 e2 st hne=>?_);subst e2;refine⟨_,_,_,_,_,_,_,rfl,Walks.list (A:=X.A.in1) (I.ok.hd hc) _ a hne its.toArray,st,A4J hb,λh' tk hk=>?_⟩;refine⟨.bl _,H,I.kept λb o eo=>hk b o (λhmem=>?_) (Gj _ eo),?_,q⟩
 ·rcases Gk.mp hmem with e1|hmem
  ·exact Gn (e1▸Gu eo) (Ie _)
  ·cases hmem
 ·show Value.bool _=Value.bool _;rw[<-A9r,hb,Go,Gz]
def C27(hc:X.calm=true):Y1 X (.builtin "all") (C7n X.K):=by
 intro pins s S H vs us Q I r h;obtain⟨a,bs,rfl,hs,q⟩:=h;obtain⟨its,rv,hl,_⟩:=I.list hs;rw[C9.ref1 r];have hb:=rv.bls;refine call_all_walk (B1D hl.isList λs2 e2 st hne=>?_);subst e2;refine⟨_,_,_,_,_,_,_,rfl,Walks.list (A:=X.A.in1) (I.ok.hd hc) _ a hne its.toArray,st,A4J hb,λh' tk hk=>?_⟩;refine⟨.bl _,H,I.kept λb o eo=>hk b o (λhmem=>?_) (Gj _ eo),?_,q⟩
 ·rcases Gk.mp hmem with e1|hmem
  ·exact Gn (e1▸Gu eo) (Ie _)
  ·cases hmem
 ·show Value.bool _=Value.bool _;rw[<-A9s,hb,Go,Gz]
end
section
variable{X:Cx}{pins:List (Nh×Obj)}{S:St}{H:Hp}{s:Ni}
end
section
variable{X:Cx}
end
abbrev B8S(h:Heap)(c:Nh)(v:Option Nj):Prop:=h.IsCell c v
def A7M(scope sc:Scope):Scope:=
 {scope with names:=scope.names.map λ(n,k)=>if(k== .free&&sc.kind== .function&&sc.names.lookup n==some .cell) then(n,.cell) else(n,k)}
noncomputable def F8(cells:List (Str×Nh)):List (Str×NameKind)->List (Str×Nh)->List (Str×Nh)
 |[],acc=>acc
 |(n,k)::r,acc=>if k== .free then F8 cells r ((n,(cells.lookup n).getD 0)::acc) else F8 cells r acc
theorem A3R(env:Env)(f:Str×NameKind->List (Str×Nh)->Sem (ForInStep (List (Str×Nh))))(hf: ∀n k c,f (n,k) c=if k== .free then(do let a <-cellOf env n;pure (.yield ((n,a)::c))) else pure (.yield c)):
  ∀(names:List (Str×NameKind))(acc:List (Str×Nh)),(∀y∈names,y.2=.free->∃c,env.cells.lookup y.1=some c)->forIn names acc f=pure (F8 env.cells names acc)
 |[],acc,_=>by rw[List.forIn_nil];rfl
 |(n,k)::r,acc,h=>by
  rw[List.forIn_cons,hf];have ih:=λacc=>A3R env f hf r acc λy hy=>h y (Gh _ hy);unfold F8;by_cases hk:(k==NameKind.free)=true
  ·rw[Gf hk,Gf hk];obtain⟨c,hc⟩:=h (n,k) Hi (by simpa using hk);have e:cellOf env n=pure c:=by unfold cellOf;rw[hc]
   rw[e];have e2:(env.cells.lookup n).getD 0=c:=by rw[hc];rfl
   rw[e2];exact ih _
  ·rw[Gd hk,Gd hk];exact ih _
def B3q(h: ∀y∈scope.names,y.2=.free->∃c,env.cells.lookup y.1=some c):closureFor scope env=pure (F8 env.cells scope.names []):=by dsimp[closureFor];rw[A3R env _ (λn k c=>rfl) scope.names [] h];rfl
theorem A24{S:Type}: ∀{l:List (Str×S)}{n:Str}{c:S},(n,c)∈l->∃c',l.lookup n=some c'
 |(k,v)::r,n,c,h=>by
  rw[Iz]
  cases hb:n==k with
  |true=>exact⟨_,rfl⟩
  |false=>
   rcases Gk.mp h with e|h
   ·cases e;simp at hb
   ·exact A24 h
theorem A0x{cells:List (Str×Nh)}: ∀{names:List (Str×NameKind)}{acc:List (Str×Nh)}{n:Str}{c:Nh},(n,c)∈F8 cells names acc->(n,c)∈acc\/((n,.free)∈names/\c=(cells.lookup n).getD 0)
 |[],_,_,_,h=>.inl h
 |(m,k)::r,acc,n,c,h=>by
  unfold F8 at h;split at h
  ·rename_i hk;have hk:k=.free:=by simpa using hk
   rcases A0x h with h|⟨h1,h2⟩
   ·rcases Gk.mp h with e|h
    ·cases e;exact .inr ⟨hk▸Hi,rfl⟩
    ·exact .inl h
   ·exact .inr ⟨Gh _ h1,h2⟩
  ·rcases A0x h with h|⟨h1,h2⟩
   ·exact .inl h
   ·exact .inr ⟨Gh _ h1,h2⟩
theorem A1Z{cells:List (Str×Nh)}: ∀{names:List (Str×NameKind)}{acc:List (Str×Nh)}{p:Str×Nh},p∈acc->p∈F8 cells names acc
 |[],_,_,h=>h
 |(m,k)::r,acc,p,h=>by
  unfold F8;split
  ·exact A1Z (Gh _ h)
  ·exact A1Z h
theorem A1Y{cells:List (Str×Nh)}: ∀{names:List (Str×NameKind)}{acc:List (Str×Nh)}{n:Str},(n,.free)∈names->(n,(cells.lookup n).getD 0)∈F8 cells names acc
 |(m,k)::r,acc,n,h=>by
  unfold F8;rcases Gk.mp h with e|h
  ·cases e;exact A1Z Hi
  ·split
   ·exact A1Y h
   ·exact A1Y h
theorem A0V: ∀{names:List (Str×NameKind)}{h:Heap}{acc:List (Str×Nh)}{x:Str}{c:Nh},(x,c)∈cellsFrom h.objs.size names acc->
  (x,c)∈acc\/((x,.cell)∈names/\h.objs.size<=c/\B8S (pushCells h names) c none)
 |[],_,_,_,_,h=>.inl h
 |(n,k)::r,h,acc,x,c,hm=>by
  unfold cellsFrom at hm;unfold pushCells;split at hm
  ·rename_i hk;rw[Gf hk];have hk:k=.cell:=by simpa using hk
   rw[<-Hs h {cls:=.type "cell",data:=.cell none}]at hm;rcases A0V hm with hm|⟨h1,h2,h3⟩
   ·rcases Gk.mp hm with e|hm
    ·cases e;exact .inr ⟨hk▸Hi,Gi _,_,pushCells_keeps r _ _ _ (Hb _ rfl),rfl⟩
    ·exact .inl hm
   ·rw[Hs]at h2;exact .inr ⟨Gh _ h1,Ka h2,h3⟩
  ·rename_i hk;rw[Gd hk];rcases A0V hm with hm|⟨h1,h2,h3⟩
   ·exact .inl hm
   ·exact .inr ⟨Gh _ h1,h2,h3⟩
theorem A2o: ∀{names:List (Str×NameKind)}{n:Nat}{acc:List (Str×Nh)}{p:Str×Nh},p∈acc->p∈cellsFrom n names acc
 |[],_,_,_,h=>h
 |(m,k)::r,n,acc,p,h=>by
  unfold cellsFrom;split
  ·exact A2o (Gh _ h)
  ·exact A2o h
theorem A4C: ∀{names:List (Str×NameKind)}{n:Nat}{acc:List (Str×Nh)}{x:Str},(x,.cell)∈names->∃c,(x,c)∈cellsFrom n names acc
 |(m,k)::r,n,acc,x,h=>by
  unfold cellsFrom;rcases Gk.mp h with e|h
  ·cases e;exact⟨n,A2o Hi⟩
  ·split
   ·exact A4C h
   ·exact A4C h
theorem A4B: ∀{names:List (Str×NameKind)}{h:Heap}{acc:List (Str×Nh)}{x y:Str}{c:Nh},(∀p∈acc,p.2<h.objs.size)->(∀x y c,(x,c)∈acc->(y,c)∈acc->x=y)->
  (x,c)∈cellsFrom h.objs.size names acc->(y,c)∈cellsFrom h.objs.size names acc->x=y
 |[],_,_,_,_,_,_,hi,h1,h2=>hi _ _ _ h1 h2
 |(n,k)::r,h,acc,x,y,c,hl,hi,h1,h2=>by
  unfold cellsFrom at h1 h2;split at h1
  ·rename_i hk;rw[Gf hk]at h2;rw[<-Hs h {cls:=.type "cell",data:=.cell none}]at h1 h2;refine A4B (h:=h.push _) (λp hp=>?_) (λx y c a b=>?_) h1 h2
   ·rw[Hs];rcases Gk.mp hp with rfl|hp
    ·exact Jq _
    ·exact Jl (hl p hp)
   ·rcases Gk.mp a with e|a<;>rcases Gk.mp b with e'|b
    ·cases e;cases e';rfl
    ·cases e;exact Gn (hl _ b) (Ie _)
    ·cases e';exact Gn (hl _ a) (Ie _)
    ·exact hi _ _ _ a b
  ·rename_i hk;rw[Gd hk]at h2;exact A4B hl hi h1 h2
def B1v{M:Model}{A:Around}{E:Nj->Ni->Prop}{s:Ni}{scope:Scope}{globals:Nh}{closure:List (Str×Nh)}{qual:Str}{func:Option Nh}{code:Nj}{around:Env}{builtins:Nh}{Q:Env->Ni->Prop}
  (h:Q (newEnv scope s.heap.objs.size globals (cellsFrom (s.heap.objs.size+1) scope.names closure) qual func code (some around) builtins)
   {s with heap:=pushCells (s.heap.push {cls:=.type "dict",data:=.dict #[]}) scope.names}):
  wpAny M A (newFunctionEnv scope globals closure [] qual func code (some around) builtins) Q E s:=by
 dsimp[newFunctionEnv,Option.isSome_some,if_true];refine Gc (wpAny_alloc ?_);refine Gc (wpAny_layCells _ (λn k c=>rfl) scope.names closure _ _ ?_);rw[show({s with heap:=s.heap.push {cls:=.type "dict",data:=.dict #[]}}:Ni).heap.objs.size=s.heap.objs.size+1 from Hs ..];rw[List.forIn_nil];exact Gc (Gx (Gx h))
theorem A1M{sc:Scope}: ∀{names:List (Str×NameKind)}{x:Str}{k:NameKind},
  (names.map λ(n,k)=>if(k==NameKind.free&&sc.kind== .function&&sc.names.lookup n==some .cell) then(n,NameKind.cell) else(n,k)).lookup x=some k->
  ∃k',names.lookup x=some k'/\(k=k'\/(k'=.free/\k=.cell))
 |[],_,_,h=>by simp at h
 |(n,k0)::r,x,k,h=>by
  have ih:= @A1M sc r x k;have h':List.lookup x ((if(k0==NameKind.free&&sc.kind== .function&&sc.names.lookup n==some .cell)=true then(n,NameKind.cell) else(n,k0))::(r.map _))=some k:=h
  cases hx:x==n with
  |true=>
   dsimp[Iz,hx];by_cases hc:(k0==NameKind.free&&sc.kind== .function&&sc.names.lookup n==some .cell)=true
   ·rw[Gf hc]at h';dsimp[Iz,hx]at h';cases h';dsimp[Ga,beq_iff_eq]at hc;exact⟨k0,rfl,.inr ⟨hc.1.1,rfl⟩⟩
   ·rw[Gd hc]at h';dsimp[Iz,hx]at h';cases h';exact⟨_,rfl,.inl rfl⟩
  |false=>
   dsimp[Iz,hx];by_cases hc:(k0==NameKind.free&&sc.kind== .function&&sc.names.lookup n==some .cell)=true
   ·rw[Gf hc]at h';dsimp[Iz,hx]at h';exact ih h'
   ·rw[Gd hc]at h';dsimp[Iz,hx]at h';exact ih h'
structure B2C(N:List Str)(sc scope:Scope)(own:List (Str×Nat)):Prop where
 kind:scope.kind=.function
 uniq: ∀y∈scope.names,scope.names.lookup y.1=some y.2
 ix: ∀p∈own,N[p.2]?=some p.1
 free: ∀y∈scope.names,y.2=.free->sc.names.lookup y.1=some .cell\/sc.names.lookup y.1=some .free
 own: ∀y∈scope.names,y.2=.local\/y.2=.cell->y.1∈own.map (·.1)\/y.1∉N
def R8(S:St):List Nat->St
 |[]=>S
 |v::vs=>(R8 S vs).set v none
theorem A1x(S:St): ∀vs:List Nat,(R8 S vs).length=S.length
 |[]=>rfl
 |v::vs=>by unfold R8;rw[List.length_set,A1x S vs]
theorem A34{i:Nat}: ∀{vs:List Nat},(R8 S vs)[i]?=some (some x)->S[i]?=some (some x)/\i∉vs
 |[],h=>⟨h,by simp⟩
 |v::vs,h=>by
  unfold R8 at h;by_cases hi:v=i
  ·subst hi;by_cases hv:v<(R8 S vs).length
   ·rw[Ki hv]at h;cases h
   ·rw[He (by simpa using hv)]at h;cases h
  ·rw[List.getElem?_set_ne hi]at h;obtain⟨h1,h2⟩:=A34 h;exact⟨h1,by dsimp[Gk,not_or];exact⟨λe=>hi e.symm,h2⟩⟩
abbrev Cx.blk(X:Cx)(s:Ni)(H:Hp)(scope:Scope)(cenv:Env)(fp:List Nh):Cx:={X with s_0:=s,H_0:=H,env:=cenv,outer:=X.stack,ex:=fp,fn:=λx=>scope.names.lookup x==some .cell,pn:=[],xe:=λ_ _=>False}
section
variable{X:Cx}{pins:List (Nh×Obj)}{S:St}{H:Hp}{s:Ni}
def B2p{scope:Scope}{own:List (Str×Nat)}{fp:List Nh}(I:C3 X pins S H s)(ok:B2C X.N X.env.scope scope own)(hN:X.N.Nodup)(hfp: ∀b∈fp,A7v X pins H b/\b<s.heap.objs.size):
  C3 (X.blk s H scope (compEnvC scope (cellsFrom (s.heap.objs.size+1) scope.names (F8 X.env.cells scope.names [])) s.heap.objs.size X.env) fp) [] (R8 S (own.map (·.2))) H {s with heap:=pushCells (s.heap.push {cls:=.type "dict",data:=.dict #[]}) scope.names}:=by
 have hfree: ∀y∈scope.names,y.2=.free->∃c,X.env.cells.lookup y.1=some c:=λy hy e=>by
  rcases ok.free y hy e with k|k
  ·exact I.ok.has _ (.inl k)
  ·exact I.ok.has _ (.inr k)
 generalize hcenv:compEnvC scope (cellsFrom (s.heap.objs.size+1) scope.names (F8 X.env.cells scope.names [])) s.heap.objs.size X.env=cenv;have kp: ∀b o,s.heap.get? b=some o->(pushCells (s.heap.push {cls:=.type "dict",data:=.dict #[]}) scope.names).get? b=some o:=λb o e=>pushCells_keeps _ _ _ _ (Gj _ e);have hL:cenv.locals=s.heap.objs.size:=by rw[<-hcenv];rfl
 have hcl:cenv.cells=cellsFrom (s.heap.objs.size+1) scope.names (F8 X.env.cells scope.names []):=by rw[<-hcenv];rfl
 have hsc:cenv.scope=A7M scope X.env.scope:=by rw[<-hcenv];rfl
 rw[<-Hs s.heap {cls:=.type "dict",data:=.dict #[]}]at hcl;have cm: ∀{y c},(y,c)∈F8 X.env.cells scope.names []->X.env.cells.lookup y=some c/\c<s.heap.objs.size:=λ{y c} hm=>by
  rcases A0x hm with hm|⟨h1,rfl⟩
  ·cases hm
  ·obtain⟨c,hc⟩:=hfree _ h1 rfl;rw[hc];obtain⟨w,z⟩:=I.cell _ _ hc;exact⟨rfl,z.lt⟩
 have mem: ∀{y c},cenv.cells.lookup y=some c->(X.env.cells.lookup y=some c/\c<s.heap.objs.size)\/(s.heap.objs.size+1<=c/\B8S (pushCells (s.heap.push {cls:=.type "dict",data:=.dict #[]}) scope.names) c none):=λ{y c} e=>by
  rw[hcl]at e;rcases A0V (Hj e) with hm|⟨_,h2,h3⟩
  ·exact .inl (cm hm)
  ·rw[Hs]at h2;exact .inr ⟨h2,h3⟩
 have look: ∀{y},scope.names.lookup y=some .free->∃c,cenv.cells.lookup y=some c/\X.env.cells.lookup y=some c:=λ{y} hl=>by
  have hy:(y,NameKind.free)∈scope.names:=Hj hl;obtain⟨c',e'⟩:=A24 (A2o (names:=scope.names) (n:=(s.heap.push {cls:=.type "dict",data:=.dict #[]}).objs.size) (A1Y (cells:=X.env.cells) (acc:=[]) hy));rw[<-hcl]at e';refine⟨c',e',?_⟩;rw[hcl]at e';rcases A0V (Hj e') with hm|⟨h1,_,_⟩
  ·exact(cm hm).1
  ·have:=ok.uniq _ h1;rw[hl]at this;cases this
 have okB:(X.blk s H scope cenv fp).Ok:=by
  refine⟨I.ok.mod,by show cenv.scope.kind=_;rw[hsc];exact ok.kind,by show cenv.globals=_;rw[<-hcenv];exact I.ok.glob,by show cenv.builtins=_;rw[<-hcenv];exact I.ok.blt,by show s.heap.objs.size<=cenv.locals;rw[hL];exact Gi _,
   λy z c e1 e2=>?_,λy hy=>?_,λy c z e=>?_,I.ok.hd,I.ok.frames,.inl rfl,λb hb=>⟨?_,λy c e z=>?_⟩,I.bs,Hc I.ok.bsz I.sz,λb o e hb=>?_,λb hb z=>?_,I.stack,I.stkFree⟩
  ·have e1:cenv.cells.lookup y=some c:=e1;have e2:cenv.cells.lookup z=some c:=e2;rw[hcl]at e1 e2;refine A4B (λp hp=>?_) (λy z c a b=>I.ok.inj y z c (cm a).1 (cm b).1) (Hj e1) (Hj e2);rw[Hs];exact Jl (cm (y:=p.1) (c:=p.2) hp).2
  ·show ∃c,cenv.cells.lookup y=some c;have key: ∀k,cenv.kindOf y=some k->(k=.cell\/k=.free)->∃c,cenv.cells.lookup y=some c:=λk hk hk'=>by
    unfold Env.kindOf at hk;rw[hsc]at hk;obtain⟨k',e,r⟩:=A1M hk;have:k'=.cell\/k'=.free:=by
     rcases r with rfl|⟨rfl,_⟩
     ·exact hk'
     ·exact .inr rfl
    rcases this with rfl|rfl
    ·obtain⟨c,hm⟩:=A4C (n:=(s.heap.push {cls:=.type "dict",data:=.dict #[]}).objs.size) (acc:=F8 X.env.cells scope.names []) (Hj e);obtain⟨c',e'⟩:=A24 hm;exact⟨c',by rw[hcl];exact e'⟩
    ·obtain⟨c,h1,_⟩:=look e;exact⟨c,h1⟩
   rcases hy with hy|hy
   ·exact key _ hy (.inl rfl)
   ·exact key _ hy (.inr rfl)
  ·have z:(scope.names.lookup y==some NameKind.cell)=true:=z;have z:scope.names.lookup y=some .cell:=by simpa using z
   have e:cenv.cells.lookup y=some c:=e;rw[hcl]at e;rcases A0V (Hj e) with hm|⟨_,h2,_⟩
   ·rcases A0x hm with hm|⟨h1,_⟩
    ·cases hm
    ·have q:=ok.uniq _ h1;rw[z]at q;cases q
   ·rw[Hs]at h2;exact Ka h2
  ·show b≠cenv.locals;rw[hL];exact Hn (hfp b hb).2
  ·have e:cenv.cells.lookup y=some c:=e;rcases mem e with⟨h1,_⟩|⟨h1,_⟩
   ·exact(hfp b hb).1.2.2.2.2.1 y c h1 z
   ·have h2:s.heap.objs.size+1<=b:=by rw[<-z];exact h1
    exact Gn (Gv (hfp b hb).2 (Ka h2)) (Ie _)
  ·rcases(hfp b hb).1.2.2.2.1 with z|z
   ·exact I.ok.noex b o e z
   ·exact Gn (Gv (Gu e) (Hc I.ok.bsz z)) (Ie _)
  ·rcases Gk.mp (I.stkSub b z) with z|z
   ·exact(hfp b hb).1.2.1 z
   ·exact(hfp b hb).1.2.2.1 z
 refine⟨okB,rfl,I.bare,Un.kept kp,⟨λ_=>none,?_,λi y av e1 e2 e3=>?_⟩,λy c e=>?_,?_,λy c e=>?_,λp hp=>?_,I.hok.kept kp,by rw[A1x];exact I.len⟩
 ·show Heap.Ns _ cenv.locals _;rw[hL];exact Heap.Ns.keeps (Heap.Ns.new ..) λb o e=>pushCells_keeps _ _ _ _ e
 ·obtain⟨e2,hne⟩:=A34 e2;have hfr:scope.names.lookup y=some .free/\(cenv.kindOf y=some .cell\/cenv.kindOf y=some .free):=by
   have key: ∀k,cenv.scope.names.lookup y=some k->k=.local\/k=.cell\/k=.free->scope.names.lookup y=some .free/\(cenv.kindOf y=some .cell\/cenv.kindOf y=some .free):=λk hk hk'=>by
    have hk0:=hk;rw[hsc]at hk;obtain⟨k',e,r⟩:=A1M hk;have no: ¬(k'=.local\/k'=.cell):=λhh=>by
     rcases ok.own _ (Hj e) hh with e'|e'
     ·obtain⟨p,hp,hpy⟩:=Ip.mp e';have e3:=ok.ix p hp;have:p.1=y:=hpy;rw[this]at e3;exact hne (Ip.mpr ⟨p,hp,A6j hN e3 e1⟩)
     ·exact e' (Gw e1)
    rcases r with rfl|⟨rfl,rfl⟩
    ·rcases hk' with rfl|rfl|rfl
     ·exact Gn (.inl rfl) no
     ·exact Gn (.inr rfl) no
     ·exact⟨e,.inr hk0⟩
    ·exact⟨e,.inl hk0⟩
   have e3:Vis cenv.scope y:=e3;rcases e3 with e3|e3|e3
   ·exact key _ e3 (.inl rfl)
   ·exact key _ e3 (.inr (.inl rfl))
   ·exact key _ e3 (.inr (.inr rfl))
  obtain⟨m,hn,hl⟩:=I.loc;have hvis:Vis X.env.scope y:=(ok.free _ (Hj hfr.1) rfl).elim (λk=>.inr (.inl k)) (λk=>.inr (.inr k));obtain⟨w,r,q⟩:=hl i y av e1 e2 hvis;refine⟨w,r,.inr ⟨hfr.2,?_⟩⟩;obtain⟨c,h1,h2⟩:=look hfr.1;rcases q with⟨k,_⟩|⟨_,c',e',z⟩
  ·have k:X.env.scope.names.lookup y=some .local:=k;rcases ok.free _ (Hj hfr.1) rfl with k'|k'<;>rw[show X.env.scope.names.lookup y=_ from k']at k<;>cases k
  ·rw[h2]at e';cases e';exact⟨c,h1,z.keeps kp⟩
 ·have e:cenv.cells.lookup y=some c:=e;rcases mem e with⟨h1,_⟩|⟨_,z⟩
  ·obtain⟨w,z⟩:=I.cell y c h1;exact⟨w,z.keeps kp⟩
  ·exact⟨_,z⟩
 ·show H cenv.locals=none;rw[hL];exact I.hok.fresh (Gi _)
 ·have e:cenv.cells.lookup y=some c:=e;rcases mem e with⟨h1,_⟩|⟨h1,_⟩
  ·exact I.freeC y c h1
  ·exact I.hok.fresh (Ka h1)
 ·exact Gn (show p∈([]:List (Nh×Obj))++[] from hp) (by simp)
def C3o(I:C3 X pins S H s)(hD:H D=some (.lst xs))(hz:xs.length<sizeLine)(r:D7 y v)(h: ∀s',C3 X pins S (upd H D (.lst (xs++[y]))) s'->Q .none s'):wpAny (model X.prog X.w) X.A (call (.builtin "list.append") [.ref D,v]) Q E s:=by
 obtain⟨hz',its,n,ri,e⟩:=I.hok D _ hD;have hl:=ri.length;refine append_at (hsz:=by rw[Go];lia) e λh' sb ho'=>?_;refine h {s with heap:=h'} (I.write (t':=s.toks) (by rw[hD];trivial) (.inl rfl) (λb u hb q=>(sb.2 b hb).trans q) ⟨_,ho'⟩ ⟨by rw[Gg];exact hz,its++[v],n+1,ri.append (.cons r .nil),?_⟩);rw[ho'];simp
def PTs(X:Cx)(ifs:List Expr)(t:TT):Prop:=
 ∀(pins:List (Nh×Obj))(s:Ni)(S:St)(H:Hp)(Q:Bool->Hp->Prop),C3 X pins S H s->t S H Q->
  wpAny (model X.prog X.w) X.A (forIn ifs true λc r=>if r=true then do let ok <-isTrue c X.env (eval c X.env);pure (ForInStep.yield ok) else pure (ForInStep.yield r)) (TP X pins S Q) X.xe s
def C3U:TT:=λ_ H Q=>Q true H
def B9E:PTs X [] C3U:=λ_ _ _ H _ I h=>wpAny_tests_nil ⟨H,I,h⟩
def B9D(h:PT X c t):PTs X [c] t:=λpins s S H Q I hw=>wpAny_tests_one (h pins s S H Q I hw)
end
def B4U{S:Type}{t:Sem S}{Q Q':S->Ni->Prop}(h:wpAny M A t Q (λ_ _=>False) s)(hQ: ∀a s,Q a s->Q' a s):wpAny M A t Q' E s:=wpAny_mono h hQ λ_ _ z=>Ik z
def B0m{R:Result->Ni->Prop}(I:Nat->Ni->Prop)
  (turn: ∀n s,I n s->wpAny (model prog w) A (pyNext it) (λr s1=>match r with
   |none=>R (.ok .next) s1
   |some v=>wpAny (model prog w) A (letOwnedTupleGo target it v) (λ_ s1'=>wpAny (model prog w) A (assign target env v) (λ_ s2=>
     wpAny (model prog w) A (forIn ifs true λc r=>if r=true then do let ok <-isTrue c env (eval c env);pure (ForInStep.yield ok) else pure (ForInStep.yield r)) (λok s3=>
      if ok=true then wpAny (model prog w) A (eval elt env) (λx s4=>
       wpAny (model prog w) A (call (.builtin "list.append") [acc,x]) (λ_ s5=>∃m,m<n/\I m s5) (notedBy (model prog w) A env λe s'=>R (.error e) s') s4) (notedBy (model prog w) A env λe s'=>R (.error e) s') s3
      else ∃m,m<n/\I m s3) (notedBy (model prog w) A env λe s'=>R (.error e) s') s2) (notedBy (model prog w) A env λe s'=>R (.error e) s') s1') (notedBy (model prog w) A env λe s'=>R (.error e) s') s1) (notedBy (model prog w) A env λe s'=>R (.error e) s') s)
  (n:Nat) (h:I n s):
  codeAny (model prog w) A (.compLoop (.ListComp elt [⟨target,iter,ifs,0⟩] scope pos) 0 it acc env) R s:=by
 refine codeAny_loop rfl I (λn s hI=>?_) n h;show wpAny _ A ((compTurn (.ListComp elt [⟨target,iter,ifs,0⟩] scope pos) 0 it acc env).onRaise (λx=>do noteFrame x env;theTreesLotGoes x)) _ _ s;refine wpAny_noted ?_;rw[compTurn_list];refine Gc (wpAny_standAt (Gc (wpAny_mono (turn n s hI) (λr s1 h1=>?_) λ_ _ h'=>h')))
 cases r with
 |none=>exact Gx h1
 |some v=>
  refine Gc (wpAny_mono h1 (λ_ s1' h1'=>?_) λ_ _ h'=>h');refine Gc (wpAny_mono h1' (λ_ s2 h2=>Gc (wpAny_mono h2 (λok s3 h3=>?_) λ_ _ h'=>h')) λ_ _ h'=>h')
  cases ok with
  |false=>exact Gx ⟨rfl,h3⟩
  |true=>exact Gc (Gc (wpAny_mono h3 (λx s4 h4=>Gc (wpAny_mono h4 (λ_ s5 h5=>Gx (Gx ⟨rfl,h5⟩)) λ_ _ h'=>h')) λ_ _ h'=>h'))
section
variable{X:Cx}
def tLc(wi:TI)(g:TG)(tt:TT)(te:TE)(vs:List Nat):TE:=fun S H Q=>wi S H λJ H1=>∀D,H1 D=none->∃W:Nat->Nat->Hp->Prop,(∃m,W 0 m (upd H1 D (.lst [])))/\∀i m H,W i m H->
 (J.stop i H/\Q (.ref D) H)\/(J.go i H/\∃Nx:Hp->Prop,(∀H',Nx H'->∃m',m'<m/\W (i+1) m' H')/\∀x H',J.yld i H x H'->g x (R8 S vs) H' fun S2 H2=>R8 S2 vs=R8 S vs/\tt S2 H2 λb H3=>
  if b=true then te S2 H3 λy H4=>∃acc,H4 D=some (.lst acc)/\acc.length<sizeLine/\Nx (upd H4 D (.lst (acc++[y]))) else Nx H3)
def B4e{pins:List (Nh×Obj)}{s:Ni}{S:St}{H:Hp}{Q:VK}{elt tg iter:Expr}{ifs:List Expr}{scope:Scope}{own:List (Str×Nat)}{pos pos':Pos}{wi:TI}{g:TG}{tt:TT}{te:TE}{use:Option (Nj->Sem Unit)}{Qf:Nj->Ni->Prop}(hc:X.calm=true)(hN:X.N.Nodup)(I:C3 X pins S H s)(hi:PI X tg iter wi)(ok:B2C X.N X.env.scope scope own)(hg: ∀(s:Ni)(H:Hp)(C:Nh)(cl:List (Str×Nh))(fp:List Nh),PG (X.blk s H scope (compEnvC scope cl C X.env) fp) tg g)(ht: ∀(s:Ni)(H:Hp)(C:Nh)(cl:List (Str×Nh))(fp:List Nh),PTs (X.blk s H scope (compEnvC scope cl C X.env) fp) ifs tt)(he: ∀(s:Ni)(H:Hp)(C:Nh)(cl:List (Str×Nh))(fp:List Nh),PE (X.blk s H scope (compEnvC scope cl C X.env) fp) elt te)(hs: ∀x,foldedSetIterable iter X.env x=pure x)(h:tLc wi g tt te (own.map (·.2)) S H Q)(hRR: ∀D C s' m H',C3 X pins S H' s'->Q (.ref D) H'->s'.heap.Ns C m->A7v X pins H' C->compPost (model X.prog X.w) X.A X.xe use Qf (.ref D) C (.ok .next) s'):
  wpAny (model X.prog X.w) X.A (comprehension (.ListComp elt [⟨tg,iter,ifs,0⟩] scope pos) scope X.env pos' (newList []) false (eval iter X.env) use) Qf X.xe s:=by
 have hfree: ∀y∈scope.names,y.2=.free->∃c,X.env.cells.lookup y.1=some c:=λy hy e=>by
  rcases ok.free y hy e with k|k
  ·exact I.ok.has _ (.inl k)
  ·exact I.ok.has _ (.inr k)
 refine wpAny_comprehension_free (use:=use) rfl hs (B3q hfree) ok.kind (λy hy e=>by rw[ok.uniq y hy,e])
  (J9 (hi pins s S H _ I h) λxv s1 hx=>J9 hx λitv s2 h2=>?_)
 obtain⟨it,fp,tn,J,H2,e,I2,T,st2,f2,q⟩:=h2;subst e;refine wpAny_newObj_type (B1v ?_) (by show 0<=sizeLine;decide);generalize hD:s2.heap.objs.size=D;have hDn:H2 D=none:=I2.hok.fresh (Kh hD);obtain⟨W,⟨m0,w0⟩,turn⟩:=q D hDn;generalize hs3:({s2 with heap:=s2.heap.push {cls:=.type "list",data:=.seq ([]:List Nj).toArray}}:Ni)=s3;have I3:C3 X pins S (upd H2 D (.lst [])) s3:=by rw[<-hs3];refine I2.laid (t':=s2.toks) (λb o e=>Gj _ e) (Kh hD) ⟨Il _,[],0,.nil,?_⟩;rw[<-hD];exact Hb _ rfl
 have h3:s3.heap=s2.heap.push {cls:=.type "list",data:=.seq ([]:List Nj).toArray}:=by rw[<-hs3]
 have sz: ∀b∈fp,b<s2.heap.objs.size:=λb hb=>by obtain⟨o,e,_⟩:=T.obj _ _ st2 b hb;exact Gu e
 have f3: ∀b∈fp,A7v X pins (upd H2 D (.lst [])) b/\b<s3.heap.objs.size:=λb hb=>by have hlt:=sz b hb;refine⟨⟨?_,(f2 b hb).2⟩,by rw[h3,Hs];exact Jl hlt⟩;rw[A4 (by rw[<-hD];exact Hn hlt)];exact(f2 b hb).1
 have st3:tn 0 s3.heap:=T.keep _ _ _ st2 λb _ o e=>by rw[h3];exact Gj _ e
 have I4:=B2p I3 ok hN f3;have pg:=hg s3 (upd H2 D (.lst [])) s3.heap.objs.size (cellsFrom (s3.heap.objs.size+1) scope.names (F8 X.env.cells scope.names [])) fp;have pt:=ht s3 (upd H2 D (.lst [])) s3.heap.objs.size (cellsFrom (s3.heap.objs.size+1) scope.names (F8 X.env.cells scope.names [])) fp;have pe:=he s3 (upd H2 D (.lst [])) s3.heap.objs.size (cellsFrom (s3.heap.objs.size+1) scope.names (F8 X.env.cells scope.names [])) fp;show codeAny _ _ (.compStart (.ListComp elt [⟨tg,iter,ifs,0⟩] scope pos) 0 (.ref it) (.ref D) (compEnvC scope (cellsFrom (s3.heap.objs.size+1) scope.names (F8 X.env.cells scope.names [])) s3.heap.objs.size X.env)) (compPost (model X.prog X.w) X.A X.xe use Qf (.ref D) s3.heap.objs.size) {s3 with heap:=pushCells (s3.heap.push {cls:=.type "dict",data:=.dict #[]}) scope.names};have nfp: ∀b∈fp,(upd H2 D (.lst [])) b=none:=λb hb=>(f3 b hb).1.1;generalize hce:compEnvC scope (cellsFrom (s3.heap.objs.size+1) scope.names (F8 X.env.cells scope.names [])) s3.heap.objs.size X.env=ce at I4 pg pt pe ⊢;have cL:ce.locals=s3.heap.objs.size:=by subst hce;rfl
 generalize hH3:upd H2 D (.lst [])=H3 at I3 I4 pg pt pe w0 nfp f3;generalize hs4:({s3 with heap:=pushCells (s3.heap.push {cls:=.type "dict",data:=.dict #[]}) scope.names}:Ni)=s4 at I4 ⊢;have st4:tn 0 s4.heap:=T.keep _ _ _ st3 λb _ o e=>by rw[<-hs4];exact pushCells_keeps _ _ _ _ (Gj _ e)
 have stat: ∀{S':St}{H':Hp}{s':Ni},C3 (X.blk s3 H3 scope ce fp) [] S' H' s'->(∀b∈fp,H' b=none)->∀b∈fp,A7v (X.blk s3 H3 scope ce fp) [] H' b:=λ{S' H' s'} I' hn b hb=>
  ⟨hn b hb,(I'.ok.exf b hb).1,I'.ok.exfs b hb,.inl hb,λx c e=>(I'.ok.exf b hb).2 x c e,λp hp=>Gn (show p∈([]:List (Nh×Obj))++[] from hp) (by simp)⟩
 have loop:codeAny (model X.prog X.w) X.A (.compLoop (.ListComp elt [⟨tg,iter,ifs,0⟩] scope pos) 0 (.ref it) (.ref D) ce) (compPost (model X.prog X.w) X.A X.xe use Qf (.ref D) s3.heap.objs.size) s4:=by
  refine B0m (λn s'=>∃i H',C3 (X.blk s3 H3 scope ce fp) [] (R8 S (own.map (·.2))) H' s'/\tn i s'.heap/\(∀b∈fp,H' b=none)/\W i n H') ?_ m0 ⟨0,H3,I4,st4,nfp,w0⟩;rintro n s5 ⟨i,H5,I5,st5,n5,w5⟩;rcases turn i n H5 w5 with⟨stop,qq⟩|⟨go,Nx,hNx,step⟩
  ·have td:=T.done (X.blk s3 H3 scope ce fp) rfl rfl rfl hc i [] s5 _ H5 (λ_ _=>False) I5 (stat I5 n5) st5 stop;refine B4U td λr s6 ⟨hr,I6⟩=>?_;subst hr;have I7:C3 X pins S H5 s6:=I3.call' (ch:=fp) I6.os I6.base I6.hok I6.bare λb hb=>⟨(f3 b hb).1.2.2.2.1,(f3 b hb).1.2.1,(f3 b hb).1.2.2.2.2.1,(f3 b hb).1.2.2.2.2.2⟩;have nC:H5 s3.heap.objs.size=none:=by have z:H5 ce.locals=none:=I6.free;rw[cL]at z;exact z
   obtain⟨m,hn,_⟩:=I6.loc;have hn:s6.heap.Ns ce.locals m:=hn;rw[cL]at hn;exact hRR D s3.heap.objs.size s6 m H5 I7 qq hn (I3.fpOk (Gi _) nC)
  ·have ti:=T.item (X.blk s3 H3 scope ce fp) rfl rfl rfl hc i [] s5 _ H5 (λ_ _=>False) I5 (stat I5 n5) st5 go;refine B4U ti λr s6 ⟨u,hr,h6⟩=>?_;subst hr;refine B4U h6 λ_ s7 ⟨x,H7,I7,r7,y7,st7,n7⟩=>?_;have I7':=I7.pinned (stat I7 n7) (T.obj _ _ st7);refine B4U (pg _ s7 _ H7 x u _ I7' r7 (step x H7 y7)) λ_ s8 ⟨S8,H8,I8,hw8,q8⟩=>?_;refine B4U (pt _ s8 S8 H8 _ I8 q8) λb s9 ⟨H9,I9,q9⟩=>?_;have P3: ∀{s':Ni}{H':Hp},C3 (X.blk s3 H3 scope ce fp) ([]++A6g fp s7.heap) S8 H' s'->Nx H'->∃m,m<n/\∃i H',C3 (X.blk s3 H3 scope ce fp) [] (R8 S (own.map (·.2))) H' s'/\tn i s'.heap/\(∀b∈fp,H' b=none)/\W i m H':=λ{s' H'} I' nx=>by
    obtain⟨m',hm,w'⟩:=hNx H' nx;have pin': ∀b∈fp,∀o,s7.heap.get? b=some o->s'.heap.get? b=some o/\H' b=none:=λb hb o e=>
     let z:=I'.pin (b,o) (Hy _ (Hy _ (A23 hb e)))
     ⟨z.1,z.2.1⟩
    have hl:(R8 S (own.map (·.2))).length=S8.length:=by rw[<-hw8,A1x]
    refine⟨m',hm,i+1,H',(I'.unpinned (pins:=[])).weak hl (λj v e=>?_),T.keep _ _ _ st7 λb hb o e=>(pin' b hb o e).1,λb hb=>?_,w'⟩
    ·rw[<-hw8]at e;exact(A34 e).1
    ·obtain⟨o,e,_⟩:=T.obj _ _ st7 b hb;exact(pin' b hb o e).2
   cases b with
   |false=>dsimp[Jb,if_false]at q9 ⊢;exact P3 I9 q9
   |true=>dsimp[if_true]at q9 ⊢;refine B4U (pe _ s9 S8 H9 _ I9 q9) λz s10 ⟨yv,H10,I10,r10,acc,hD10,hz10,nx⟩=>?_;exact C3o (X:=X.blk s3 H3 scope ce fp) I10 hD10 hz10 r10 λs11 I11=>P3 I11 nx
 exact codeAny_compStart_list loop (T.self X.A 0 _ _ _ st4 loop)
def C4z{own:List (Str×Nat)}(hc:X.calm=true)(hN:X.N.Nodup)(hi:PI X tg iter wi)(ok:B2C X.N X.env.scope scope own)(hg: ∀(s:Ni)(H:Hp)(C:Nh)(cl:List (Str×Nh))(fp:List Nh),PG (X.blk s H scope (compEnvC scope cl C X.env) fp) tg g)(ht: ∀(s:Ni)(H:Hp)(C:Nh)(cl:List (Str×Nh))(fp:List Nh),PTs (X.blk s H scope (compEnvC scope cl C X.env) fp) ifs tt)(he: ∀(s:Ni)(H:Hp)(C:Nh)(cl:List (Str×Nh))(fp:List Nh),PE (X.blk s H scope (compEnvC scope cl C X.env) fp) elt te)(hs: ∀x,foldedSetIterable iter X.env x=pure x:=by intro _;rfl):
  PE X (.ListComp elt [⟨tg,iter,ifs,0⟩] scope pos) (tLc wi g tt te (own.map (·.2))):=by
 intro pins s S H Q I h;rw[eval_ListComp];refine B4e hc hN I hi ok hg ht he hs h λD C s' m H' I' q hn f=>⟨m,hn,λh'' sb=>?_⟩;obtain⟨f0,f1,f2,f3,f4,f5⟩:=f;exact⟨.ref D,H',I'.turned (t':=s'.toks) (λb o hb e=>(sb.2 b hb).trans e) f0 f1 f3 f4 f5,rfl,q⟩
def B7b{i:Nat}{own:List (Str×Nat)}(hc:X.calm=true)(hN:X.N.Nodup)(hy:X.N[i]?=some y)(hyl:X.env.scope.names.lookup y=some .local)(hsw:swapsWith (.ListComp elt [⟨tg,iter,ifs,0⟩] scope pos) (some (.Name y py)) spos.line X.env=pure true)(hi:PI X tg iter wi)(ok:B2C X.N X.env.scope scope own)(hg: ∀(s:Ni)(H:Hp)(C:Nh)(cl:List (Str×Nh))(fp:List Nh),PG (X.blk s H scope (compEnvC scope cl C X.env) fp) tg g)(ht: ∀(s:Ni)(H:Hp)(C:Nh)(cl:List (Str×Nh))(fp:List Nh),PTs (X.blk s H scope (compEnvC scope cl C X.env) fp) ifs tt)(he: ∀(s:Ni)(H:Hp)(C:Nh)(cl:List (Str×Nh))(fp:List Nh),PE (X.blk s H scope (compEnvC scope cl C X.env) fp) elt te)(hs: ∀x,foldedSetIterable iter X.env x=pure x:=by intro _;rfl):
  PS X (.Assign [.Name y py] (.ListComp elt [⟨tg,iter,ifs,0⟩] scope pos) spos) (B4W (tLc wi g tt te (own.map (·.2))) (Y4 i)):=by
 intro pins s S H D I h;rw[exec_Assign_Name_used _ _ _ _ hsw];refine Gc (wpAny_standAt (Gc ?_));show wpAny _ X.A (do let _ <-comprehension (.ListComp elt [⟨tg,iter,ifs,0⟩] scope pos) scope X.env (firstIterPos [⟨tg,iter,ifs,0⟩] pos) (newList []) false (eval iter X.env) (some (assign (.Name y py) X.env))) _ _ s;have h:tLc wi g tt te (own.map (·.2)) S H (λx H1=>Y4 i x S H1 D.nx):=h;refine Gc (J9 (B4e (Qf:=λ_ s'=>SP X pins D .next s') hc hN I hi ok hg ht he hs h λL C s' m H' I' q hn f=>?_) λ_ s' hq=>Gx (Gx hq));show wpAny _ _ (assign (.Name y py) X.env (.ref L)) _ _ _;refine wpAny_assign_Name (A8o (v:=V.ref L) I' hN hy (.inl hyl) rfl (λs2 I2 ⟨a,sb,ha⟩=>?_) (.inr hyl));obtain⟨f0,f1,f2,f3,f4,f5⟩:=f;have haC:C≠a:=by
  rcases ha with z|z
  ·rw[z];exact f1
  ·exact λe=>f4 y a z e.symm
 refine⟨m,hn.sameBut sb haC,λh3 sb3=>?_⟩;exact⟨_,H',I2.turned (t':=s2.toks) (λb o hb e=>(sb3.2 b hb).trans e) f0 f1 f3 f4 f5,q⟩
def B9b{gs:List Comprehension}{l:Nat}(hk:env.scope.kind=.function)(hy:env.scope.names.lookup y=some .local)(hl:(py.line==pos.line)=true)(ha:(scope.names.any λ(n,k)=>n==y&&(k== .local||k== .cell))=false):swapsWith (.ListComp elt gs scope pos) (some (.Name y py)) l env=pure true:=by
 have ky:env.kindOf y=some .local:=hy;have hb:env.blockKind=.function:=by unfold Env.blockKind;rw[hk];rfl
 unfold swapsWith;dsimp[hb,ky,ha,show(Expr.ListComp elt gs scope pos).pos=pos from rfl,hl];rfl
end
noncomputable def B8z(N:List Str)(sc scope:Scope)(own:List (Str×Nat)):Bool:=
 (match scope.kind with|.function=>true|_=>false)&&(scope.names.all λy=>decide (scope.names.lookup y.1=some y.2))&&(own.all λp=>decide (N[p.2]?=some p.1))&&
  (scope.names.all λy=>match y.2 with
   |.free=>(match sc.names.lookup y.1 with|some .cell=>true|some .free=>true|_=>false)
   |.local=>decide (y.1∈own.map (·.1))||decide (y.1∉N)
   |.cell=>decide (y.1∈own.map (·.1))||decide (y.1∉N)
   |_=>true)
def A69{own:List (Str×Nat)}(h:B8z N sc scope own=true):B2C N sc scope own:=by
 unfold B8z at h;dsimp[Ga,Iw,Gb]at h;obtain⟨⟨⟨h1,h2⟩,h3⟩,h4⟩:=h;refine⟨?_,h2,h3,λy hy e=>?_,λy hy e=>?_⟩
 ·split at h1
  ·assumption
  ·cases h1
 ·have q:=h4 y hy;dsimp[e]at q;split at q<;>first|exact .inl (by assumption)|exact .inr (by assumption)|cases q
 ·have q:=h4 y hy;rcases e with e|e<;>(dsimp[e,Ht,Gb]at q;exact q)
section
variable{prog:Nk}{w:World}{A:Around}{R:Result->Ni->Prop}{s:Ni}{elt t0 i0 t1 i1:Expr}{ifs0 ifs1:List Expr}{scope:Scope}{pos:Pos}{it acc:Nj}{env:Env}
end
section
variable{X:Cx}
end
section
variable{S:Type}[DecidableEq S]
noncomputable def P2(kvs:List (S×V))(k:S):Option V:=(kvs.find? λkv=>decide (kv.1=k)).map (·.2)
noncomputable def A6e(kvs:List (S×V))(k:S)(v:V):List (S×V):=
 if(kvs.any λkv=>decide (kv.1=k))=true then kvs.map (λkv=>if kv.1=k then(kv.1,v) else kv) else kvs++[(k,v)]
def P4{p:S×V}{r:List (S×V)}{k:S}(e:p.1=k):P2 (p::r) k=some p.2:=by simp[P2,Jh,e]
def P5{p:S×V}{r:List (S×V)}{k:S}(e: ¬p.1=k):P2 (p::r) k=P2 r k:=by simp[P2,Jh,e]
theorem A5Z(k:S): ∀kvs:List (S×V),(kvs.any λkv=>decide (kv.1=k))=(P2 kvs k).isSome
 |[]=>rfl
 |p::r=>by
  rw[Ig];by_cases e:p.1=k
  ·dsimp[P4 e,Hv e,Bool.true_or,Option.isSome_some]
  ·rw[P5 e,Hk e,Bool.false_or];exact A5Z k r
theorem B0Q(k j:S)(y:V): ∀kvs:List (S×V),P2 (kvs.map λkv=>if kv.1=k then(kv.1,y) else kv) j=(P2 kvs j).map λx=>if j=k then y else x
 |[]=>rfl
 |p::r=>by
  have ih:=B0Q k j y r;rw[Gm];by_cases h:p.1=k
  ·rw[Gf h];by_cases e:p.1=j
   ·rw[P4 (p:=(p.1,y)) e,P4 e,Hg,Gf (e.symm.trans h)]
   ·rw[P5 (p:=(p.1,y)) e,P5 e,ih]
  ·rw[Gd h];by_cases e:p.1=j
   ·rw[P4 (p:=p) e,P4 e,Hg,Gd (λz=>h (e.trans z))]
   ·rw[P5 (p:=p) e,P5 e,ih]
theorem A8k(k j:S)(y:V): ∀kvs:List (S×V),P2 kvs k=none->P2 (kvs++[(k,y)]) j=if j=k then some y else P2 kvs j
 |[],_=>by
  by_cases e:k=j
  ·rw[Gf e.symm];exact P4 (p:=(k,y)) e
  ·rw[Gd (λz=>e z.symm)];exact P5 (p:=(k,y)) e
 |p::r,hn=>by
  rw[Jr];have hk: ¬p.1=k:=λz=>by rw[P4 z]at hn;cases hn
  rw[P5 hk]at hn;have ih:=A8k k j y r hn;by_cases e:p.1=j
  ·rw[P4 e,P4 e,Gd (λz=>hk (e.trans z))]
  ·rw[P5 e,P5 e,ih]
def B6r(kvs:List (S×V))(k j:S)(y:V):P2 (A6e kvs k y) j=if j=k then some y else P2 kvs j:=by
 unfold A6e;by_cases a:(kvs.any λkv=>decide (kv.1=k))=true
 ·rw[Gf a,B0Q];rw[A5Z]at a;by_cases e:j=k
  ·obtain⟨x,hx⟩:=Kc.mp a;rw[Gf e,e,hx,Hg,Gf rfl]
  ·rw[Gd e]
   cases P2 kvs j with
   |none=>rfl
   |some x=>rw[Hg,Gd e]
 ·rw[Gd a];refine A8k k j y kvs ?_;rw[A5Z]at a
  cases q:P2 kvs k with
  |none=>rfl
  |some x=>rw[q]at a;exact(a rfl).elim
def B1z(kvs:List (S×V))(k:S)(v:V):(A6e kvs k v).length<=kvs.length+1:=by
 unfold A6e;split
 ·rw[Gz];lia
 ·rw[Gg,Ge,Gr];lia
def A3i.isSome_eq{u:Option Nj}(r:A3i o u):o.isSome=u.isSome:=by
 cases o with
 |none=>cases u with
  |none=>rfl
  |some _=>exact(show False from r).elim
 |some _=>cases u with
  |none=>exact(show False from r).elim
  |some _=>rfl
def A3i.getD{u:Option Nj}(r:A3i o u)(rd:D7 d d'):D7 (o.getD d) (u.getD d'):=by
 cases o with
 |none=>cases u with
  |none=>exact rd
  |some _=>exact(show False from r).elim
 |some _=>cases u with
  |none=>exact(show False from r).elim
  |some _=>exact r
def KV.val{kvs:List (S×V)}{vs:List (S×Nj)}(r:KV kvs vs)(k:S):A3i (P2 kvs k) (valueAt vs k):=by
 unfold KV at r
 induction r with
 |nil=>exact True.intro
 | @cons p q ps qs h t ih=>
  obtain⟨h1,h2⟩:=h;by_cases e:p.1=k
  ·have e':q.1=k:=h1.symm.trans e;have b:valueAt (q::qs) k=some q.2:=by simp[valueAt,Jh,e']
   rw[P4 e,b];exact h2
  ·have e': ¬q.1=k:=λz=>e (h1.trans z);have b:valueAt (q::qs) k=valueAt qs k:=by simp[valueAt,Jh,e']
   rw[P5 e,b];exact ih
def KV.any{kvs:List (S×V)}{vs:List (S×Nj)}(r:KV kvs vs)(k:S):(kvs.any λkv=>decide (kv.1=k))=vs.any λkv=>decide (kv.1=k):=by
 unfold KV at r
 induction r with
 |nil=>rfl
 |cons h t ih=>rw[Ig,Ig,ih,h.1]
def KV.repl{kvs:List (S×V)}{vs:List (S×Nj)}(r:KV kvs vs)(k:S){y:V}{u:Nj}(ry:D7 y u):
  KV (kvs.map λkv=>if kv.1=k then(kv.1,y) else kv) (vs.map λkv=>if kv.1=k then(kv.1,u) else kv):=by
 unfold KV at r ⊢
 induction r with
 |nil=>exact .nil
 | @cons p q ps qs h t ih=>
  rw[Gm,Gm];refine .cons ?_ ih;obtain⟨h1,h2⟩:=h;by_cases e:p.1=k
  ·rw[Gf e,Gf (h1.symm.trans e)];exact⟨h1,ry⟩
  ·rw[Gd e,Gd (λz=>e (h1.trans z))];exact⟨h1,h2⟩
def KV.put{kvs:List (S×V)}{vs:List (S×Nj)}(r:KV kvs vs)(k:S){y:V}{u:Nj}(ry:D7 y u):KV (A6e kvs k y) (stored vs k u):=by
 unfold A6e stored;rw[r.any k];by_cases e:(vs.any λkv=>decide (kv.1=k))=true
 ·rw[Gf e,Gf e];exact r.repl k ry
 ·rw[Gd e,Gd e];exact Paired.snoc r ⟨rfl,ry⟩
def KV.length{kvs:List (S×V)}{vs:List (S×Nj)}(r:KV kvs vs):kvs.length=vs.length:=Paired.length r
end
def A8F{k:S4}(r:D7 (kV k) u):(K0 P w).is k u=true:=by
 cases k with
 |inl i=>obtain⟨t,e⟩:=(show ∃t,u=Value.int i t from r);subst e;exact B1y P w i t
 |inr x=>obtain⟨t,e⟩:=(show ∃t,u=Value.str x t from r);subst e;exact A1L P w x t
theorem A8G: ∀{ks:List S4}{us:List Nj},C9 (ks.map kV) us->ItemsAre (K0 P w) ks us
 |[],_,r=>by rw[Ij]at r;cases r;exact .nil
 |k::ks,_,r=>by
  rw[Gm]at r
  cases r with
  |cons h t=>exact .cons (A8F h) (A8G t)
abbrev KT(H:Hp):List (List S4×V)->List (List S4×Nh×Nj)->Prop:=Paired λp q=>p.1=q.1/\H q.2.1=some (.tup (p.1.map kV))/\D7 p.2 q.2.2
def KT.val{kvs:List (List S4×V)}{xs:List (List S4×Nh×Nj)}(r:KT H kvs xs)(k:List S4):A3i (P2 kvs k) ((atKey xs k).map (·.2)):=by
 induction r with
 |nil=>exact True.intro
 | @cons p q ps qs h t ih=>
  obtain⟨h1,_,h2⟩:=h;by_cases e:p.1=k
  ·have e':q.1=k:=h1.symm.trans e;have b:atKey (q::qs) k=some q.2:=by simp[atKey,Jh,e']
   rw[P4 e,b];exact h2
  ·have e': ¬q.1=k:=λz=>e (h1.trans z);have b:atKey (q::qs) k=atKey qs k:=by simp[atKey,Jh,e']
   rw[P5 e,b];exact ih
section
variable{P:Nk}{w:World}{H:Hp}{h:Heap}{a:Nh}
def C03(ok:HOk P w H h)(e:Rd H a u):N6 P w H h a u:=e.ok ok
def B8j{kvs:List (S4×V)}(ok:HOk P w H h)(e:Rd H a (.dK kvs)):kvs.length<=sizeLine/\(a==sysModules)=false/\∃vs,KV kvs vs/\h.DictOf (K0 P w) a vs:=
 show N6 P w H h a (.dK kvs) from C03 ok e
def B3c{ks:List S4}(ok:HOk P w H h)(e:H a=some (.tup (ks.map kV))):(tupleKind (K0 P w)).is h ks a:=by
 obtain⟨_,its,r,o,h1,h2,n,h3⟩:=(show N6 P w H h a (.tup (ks.map kV)) from ok a _ e)
 exact⟨o,its.toArray,n,h1,h2,h3,by simpa using A8G r⟩
def B8h{kvs:List (List S4×V)}(ok:HOk P w H h)(e:Rd H a (.dT kvs)):kvs.length<=sizeLine/\(a==sysModules)=false/\
  ∃xs,KT H kvs xs/\h.DictOfH (tupleKind (K0 P w)) a xs:=by
 obtain⟨z,y,xs,r,o,es,ep,h1,h2,h3,h4,h5⟩:=(show N6 P w H h a (.dT kvs) from C03 ok e)
 refine⟨z,y,xs,r,o,es,ep,h1,h2,h3,h4,λx hx=>?_,h5⟩;have all: ∀{l:List (List S4×V)}{m:List (List S4×Nh×Nj)},KT H l m->∀x∈m,(tupleKind (K0 P w)).is h x.1 x.2.1:=by
  intro l m q
  induction q with
  |nil=>intro x hx;exact nomatch hx
  | @cons p q ps qs hq t ih=>
   intro x hx;rcases Gk.mp hx with e|hx
   ·subst e;exact B3c ok (by rw[<-hq.1];exact hq.2.1)
   ·exact ih x hx
 exact all r x hx
end
def A8e(H:Hp)(a:Nh)(y:V)(r:Option V):Prop:=
 (∃kvs k,Rd H a (.dK kvs)/\y=kV k/\r=P2 kvs k)\/∃kvs k b,Rd H a (.dT kvs)/\y=.ref b/\H b=some (.tup (k.map kV))/\r=P2 kvs k
theorem A8e.k{kvs:List (S4×V)}{k:S4}(e:H a=some (.dK kvs)):A8e H a (kV k) (P2 kvs k):=.inl ⟨kvs,k,.inl e,rfl,rfl⟩
section
variable{X:Cx}{pins:List (Nh×Obj)}{S:St}{H:Hp}{s:Ni}{a:Nh}{y v:V}{u r:Nj}{o:Option V}{A:Around}{E:Nj->Ni->Prop}
def C3.big(I:C3 X pins S H s):sysModules<s.heap.objs.size:=by have h:mainGlobals<s.heap.objs.size:=(I.mod.glob.keeps I.bk).lt;exact Jk (by decide) h
def B5E(hu:A.units+1<cLine)(I:C3 X pins S H s)(g:A8e H a y (some v))(ry:D7 y u)(h: ∀w' s',C3 X pins S H s'->D7 v w'->Q w' s'):
  wpAny (model X.prog X.w) A (getItem (.ref a) u) Q E s:=by
 rcases g with⟨kvs,k,e,ey,l⟩|⟨kvs,k,b,e,ey,eb,l⟩
 ·subst ey;obtain⟨z,hd,vs,rel,dd⟩:=B8j I.hok e;obtain⟨w',hw,rw'⟩:=A3i.some_of (v:=v) (o:=valueAt vs k) (by rw[l];exact rel.val k);exact wpAny_getItem_of (A8F ry) dd.mapOf hw (h w' _ (I.tok _) rw')
 ·subst ey;cases (show u=Value.ref b from ry);obtain⟨z,hd,xs,rel,dd⟩:=B8h I.hok e;obtain⟨w',hw,rw'⟩:=A3i.some_of (v:=v) (o:=(atKey xs k).map (·.2)) (by rw[l];exact rel.val k);obtain⟨p,hp,hp2⟩:=Hh.mp hw;refine wpAny_getItem_heap (tupleKind_room_in1 hu) (B3c I.hok eb) dd hp ?_;rw[hp2];exact h w' _ (I.tok _) rw'
def C77(hu:A.units+1<cLine)(I:C3 X pins S H s)(g:A8e H a y o)(ry:D7 y u)(h: ∀s',C3 X pins S H s'->Q (.bool o.isSome) s'):
  wpAny (model X.prog X.w) A (compareOp .In u (.ref a)) Q E s:=by
 rcases g with⟨kvs,k,e,ey,l⟩|⟨kvs,k,b,e,ey,eb,l⟩
 ·subst ey;obtain⟨z,hd,vs,rel,dd⟩:=B8j I.hok e;refine wpAny_in_of (A8F ry) hd dd.mapOf ?_;rw[<-(rel.val k).isSome_eq,<-l];exact h _ (I.tok _)
 ·subst ey;cases (show u=Value.ref b from ry);obtain⟨z,hd,xs,rel,dd⟩:=B8h I.hok e;refine wpAny_in_heap (tupleKind_room_in1 hu) (B3c I.hok eb) hd dd ?_;have q:=(rel.val k).isSome_eq;rw[Option.isSome_map]at q;rw[<-q,<-l];exact h _ (I.tok _)
end
section
variable{X:Cx}{pins:List (Nh×Obj)}{S:St}{H:Hp}{s:Ni}{a:Nh}{kvs:List (S4×V)}{k:S4}{u:Nj}{A:Around}{E:Nj->Ni->Prop}
end
def C5y(i:Expr):Prop:=∀ov iv,subscripted i false ov iv=operate [ov,iv] (getItem ov iv)
def B9c{T id:String}
  (hl:typeLookup (.type T) "__getitem__"=pure (some (.builtin id))) (hs:C5y slice)
  (h:wpAny (model prog w) A (eval value env) (λo s1=>wpAny (model prog w) A (eval slice env) (λi s2=>s2.TypeIs o T/\wpAny (model prog w) A (getItem o i) Q E s2) E s1) E s):
  wpAny (model prog w) A (eval (.Subscript value slice pos) env) Q E s:=by
 refine Subscript_ (wpAny_mono h (λo s1 h1=>wpAny_mono h1 (λi s2 h2=>?_) λ_ _ x=>x) λ_ _ x=>x);obtain⟨hT,h2⟩:=h2;unfold subscriptTail;refine Gc ?_;rw[getitemInPython_of_ne hT.not_modules];refine Gc (wpAny_specialOf hT hl ?_);have P3:wpAny (model prog w) A (subscripted slice false o i) (λr s3=>wpAny (model prog w) A (letTemporaryGo value o r>>=λ_=>pure r) Q E s3) E s2:=by rw[hs o i];exact wpAny_operating (wpAny_mono h2 (λr s3 h3=>Gc (wpAny_letTemporaryGo (Gx h3))) λ_ _ x=>x)
 first
  |exact Gx (Gc P3)
  |exact Gc (Gx (Gc P3))
  |exact Gc P3
def B1Y(I:C3 X pins S H s)(g:A8e H a y o):s.TypeIs (.ref a) "dict":=by
 rcases g with⟨kvs,k,e,_,_⟩|⟨kvs,k,b,e,_,_,_⟩
 ·obtain⟨_,_,vs,_,dd⟩:=B8j I.hok e;exact dd.typeIs
 ·obtain⟨_,_,xs,_,dd⟩:=B8h I.hok e;exact dd.typeIs
def C0W(td ty:TE):TE:=fun S H Q=>td S H λx H1=>ty S H1 λy H2=>∃a v,x=.ref a/\A8e H2 a y (some v)/\Q v H2
def C4d(ty td:TE):TE:=fun S H Q=>ty S H λy H1=>td S H1 λx H2=>∃a o,x=.ref a/\A8e H2 a y o/\Q (.bl o.isSome) H2
section
variable{X:Cx}{o i e value:Expr}{pos pos' tpos:Pos}{td ty tv:TE}
def B9S(hu:X.A.units+1<cLine)(ho:PE X o td)(hi:PE X i ty)(hs:C5y i):PE X (.Subscript o i pos) (C0W td ty):=by intro pins s S H Q I h;refine B9c PySem.F.slot_dict_getitem.lookup hs (J9 (ho pins s S H _ I h) λu s1 ⟨x,H1,I1,rx,q1⟩=>J9 (hi pins s1 S H1 _ I1 q1) λiv s2 ⟨y,H2,I2,ry,a,v,ex,g,q2⟩=>?_);subst ex;obtain rfl:u=Value.ref a:=rx;exact⟨B1Y I2 g,B5E hu I2 g ry λw' s3 I3 rw'=>⟨v,H2,I3,rw',q2⟩⟩
def B7u(hu:X.A.units+1<cLine)(hi:PE X i ty)(ho:PE X o td):PC X .In i o (C4d ty td):=by intro pins s S H Q I h;refine J9 (hi pins s S H _ I h) λiv s1 ⟨y,H1,I1,ry,q1⟩=>J9 (ho pins s1 S H1 _ I1 q1) λu s2 ⟨x,H2,I2,rx,a,ov,ex,g,q2⟩=>?_;subst ex;obtain rfl:u=Value.ref a:=rx;exact C77 hu I2 g ry λs3 I3=>⟨.bl ov.isSome,H2,I3,rfl,q2⟩
end
section
variable{X:Cx}{pos:Pos}
end
def R9(kvs more:List (S4×V)):List (S4×V):=more.foldl (λacc kv=>A6e acc kv.1 kv.2) kvs
def KV.merge: ∀{more:List (S4×V)}{rs:List (S4×Nj)}{kvs:List (S4×V)}{vs:List (S4×Nj)},KV more rs->KV kvs vs->KV (R9 kvs more) (merged vs rs):=by
 intro more rs kvs vs r;unfold KV at r
 induction r generalizing kvs vs with
 |nil=>intro q;exact q
 | @cons p q ps qs h t ih=>
  intro r0;have e:KV (A6e kvs p.1 p.2) (stored vs q.1 q.2):=by have:=r0.put p.1 h.2;rw[<-h.1];exact this
  exact ih e
theorem A2C: ∀(more kvs:List (S4×V)),(R9 kvs more).length<=kvs.length+more.length
 |[],kvs=>by show kvs.length<=kvs.length+0;lia
 |p::r,kvs=>by have h1:=A2C r (A6e kvs p.1 p.2);have h2:=B1z kvs p.1 p.2;show(R9 (A6e kvs p.1 p.2) r).length<=_;rw[Ge];lia
structure M2(X:Cx)(o:Expr)(m:Str)(apos:Pos)(e f:Expr)(cpos:Pos):Prop where
 base:attributeBase o m X.env (eval o X.env)=eval o X.env
 few:((backTo cpos (starEach [e,f] X.env)).all (λx=>!x.1)&&(backToKw cpos (keywordEach [] X.env)).all (λx=>x.1.isSome)
  &&decide (([e,f]:List Expr).length+([]:List Keyword).length+(if([]:List Keyword).isEmpty then 0 else 1)<30))=true
 line:(apos.endLine==cpos.line)=true
 trees:backTo cpos (starEach [e,f] X.env)=[(false,eval e X.env),(false,eval f X.env)]
section
variable{X:Cx}{pins:List (Nh×Obj)}{S:St}{H:Hp}{s:Ni}{a:Nh}{y d:V}{u r:Nj}{o:Option V}{A:Around}{E:Nj->Ni->Prop}
end
section
variable{X:Cx}{o e f:Expr}{apos cpos:Pos}{td ty tx:TE}
end
section
variable{X:Cx}{pins:List (Nh×Obj)}{S:St}{H:Hp}{s:Ni}{a:Nh}{kvs:List (S4×V)}{A:Around}{E:Nj->Ni->Prop}
end
section
variable{X:Cx}{pins:List (Nh×Obj)}{S:St}{H:Hp}{s:Ni}{a:Nh}{y:V}{u:Nj}{A:Around}{E:Nj->Ni->Prop}
end
def A6q:typeLookup (.type "list") "keys"=pure none:=am_miss_of_fast (by first|decide+kernel|rfl)
def B0T:entryFor table "dict.update.loop"=some Builtin.«dict.update.loop»:=entryFor_of_tree (by kernel_rfl)
def A1y:plainId "dict.update.loop"=true:=by decide+kernel
section
variable{prog:Nk}{w:World}{A:Around}{E:Nj->Ni->Prop}
def B5g{xs:Array Nj}{k:Nat}{Q:Option Nj->Ni->Prop}(hx:s.heap.get? a=some o) (hc:o.cls=.type "list") (hdat:o.data=.seq xs k) (hd:o.dict=none) (hA:A.handled=none)
  (h: ∀h' tk,(∀b ob,s.heap.get? b=some ob->h'.get? b=some ob)->Q none {s with heap:=h',toks:=tk}):wpAny (model prog w) A (getAttr? (.ref a) "keys") Q E s:=by
 obtain⟨c,dct,dat,sl⟩:=o;simp only at hc hdat hd;subst hc hdat hd;obtain⟨hp,g,d,tk,os⟩:=s;have hT: ∀tk',(⟨hp,g,d,tk',os⟩:Ni).TypeIs (.ref a) "list":=λ_=>⟨_,hx,rfl⟩;have hmiss:=A6q;have hname:(["__module__","__name__","__qualname__","__doc__","__annotations__"]:List Str).contains "keys"=false:=by decide+kernel
 have hsz:("keys":Str).length+100<=sizeLine:=by first|size_fits|decide+kernel
 have f1:=sub_AttributeError;have f3:=PySem.F.slot_list_getattribute.lookup;have f4:=PySem.F.slot_list_getattribute.bind (.ref a);have f5:=am_list_getattr_none;unfold getAttr? getAttrBy? getAttrBy
 repeat (any_goals (first|assumption|exact hT _|((with_reducible show wpAny _ _ (call (Value.builtin "list.__getattribute__") _ _) _ _ _);refine call_meets PySem.F.slot_list_getattribute (hT _) am_entry_list_getattribute (PySem.F.args_list_getattribute_2 _ _) (meets_getattribute_miss_list a xs k sl "keys" _ hmiss hname hsz) ⟨hx,hA,λh' tk' e hx'=>?_⟩)|wp_step))
 obtain⟨t',u',he⟩:=hx'.there;show wpAny _ _ (getattributeRaised _ _ _ _ _ _ _) _ _ _;unfold getattributeRaised
 repeat (any_goals (first|assumption|wp_step))
 all_goals first|exact h _ _ hx'.keeps|(dsimp only;repeat (any_goals (first|assumption|exact h _ _ hx'.keeps|wp_step)))
theorem B0R{R:Result->Ni->Prop}{items:Array Nj}(hh:A.handled=none)(hlI:l≠I)(hSI:S≠I)(hSl:S≠l):
  ∀(L3:List (S4×Nj))(i:Nat)(acc:List (S4×Nj))(ix:Int)(t:Tok)(s:Ni),items.size=i+L3.length->acc.length+L3.length<=sizeLine->
   (∀(j:Nat)(q:S4×Nj),L3[j]?=some q->∃(b:Nh)(u:Nj),items[i+j]?=some (.ref b)/\b≠S/\b≠I/\IsTup s.heap b #[u,q.2]/\A3z q.1 u=true)->
   s.heap.IsListIter I l i->s.heap.IsList l items->s.heap.DictOf (K0 prog w) S acc->
   (∀h' tk,h'.DictOf (K0 prog w) S (merged acc L3)->(∀b o,b≠S->b≠I->s.heap.get? b=some o->h'.get? b=some o)->R (.ok (.ret res)) {s with heap:=h',toks:=tk})->
   codeAny (model prog w) A (.builtin "dict.update.loop" ⟨[.ref S,.ref I,.int ix t,res],[]⟩) R s
 |[],i,acc,ix,t,s,hsz,hln,ht,hit,hl,hm,hR=>by refine codeAny_builtin B0T ?_;rw[Around.under_plainId A1y _];show wpAny _ A.in1 (pyNext (.ref I)>>=_) _ _ s;refine Gc (wpAny_pyNext_list_end (A:=A.in1) hh hit hl (by first|exact Kk (Kh hsz)|(simp at hsz;simp;lia)) λh' he=>?_);show wpAny _ A.in1 (Builtin.Dict.addKeywords S []>>=_) _ _ _;refine Gc (Gx (Gx ?_));exact hR h' s.toks (hm.extBut he hSI) λb o _ hb e=>he b o hb e
 |q::L3,i,acc,ix,t,s,hsz,hln,ht,hit,hl,hm,hR=>by
  obtain⟨b,u,hb,hbS,hbI,htup,hk⟩:=ht 0 q rfl;rw[Ge]at hsz hln;refine codeAny_builtin B0T ?_;rw[Around.under_plainId A1y _];show wpAny _ A.in1 (pyNext (.ref I)>>=_) _ _ s;refine Gc (wpAny_pyNext_list_item (x:=.ref b) hit hl (by simpa using hb) λh1 hit1 hs1=>?_);have ht1:IsTup h1 b #[u,q.2]:=htup.extBut hs1.extBut hbI;have hl1:h1.IsList l items:=hl.extBut hs1.extBut hlI;have hm1:h1.DictOf (K0 prog w) S acc:=hm.extBut hs1.extBut hSI;obtain⟨o,ho,hc,n,hd⟩:=id ht1;show wpAny _ A.in1 (holding [Value.ref b] _>>=_) _ _ _;refine Gc (wpAny_holding ?_);refine Gc (wpAny_tryCatch ?_);unfold Builtin.Dict.pairItems;refine Gc (wpAny_typeOf (T:="tuple") ⟨o,ho,hc⟩ ?_);rw[Gf (by first|decide|rfl|simp)];refine Gc (wpAny_seqItems ho hd (Gx ?_));show wpAny _ A.in1 (holding [u,q.2] (dictSet S u q.2)) _ _ _;refine wpAny_holding (wpAny_dictSet_pairs (knd:=K0 prog w) (k:=q.1) hk hm1 (λh2 hm2 hs2=>?_) (by lia));refine Gx ⟨plainId_quiet A1y _,B0R (items:=items) hh hlI hSI hSl L3 (i+1) (stored acc q.1 q.2) (ix+1) 0 _ (show items.size=i+1+L3.length by lia) ?_ (λj q' e=>?_) ?_ ?_ hm2 λh' tk hd' k=>?_⟩
  ·have z:=stored_length_le acc q.1 q.2
   lia
  ·obtain⟨b',u',hb',hbS',hbI',htup',hk'⟩:=ht (j+1) q' (by simpa using e);refine⟨b',u',?_,hbS',hbI',(htup'.extBut hs1.extBut hbI').extBut hs2.extBut hbS',hk'⟩;rw[show i+1+j=i+(j+1) by lia];exact hb'
  ·exact hit1.at λo' e=>hs2.extBut I o' (Ii hSI) e
  ·exact hl1.extBut hs2.extBut (Ii hSl)
  ·exact hR h' tk hd' λc oc h3 h4 e=>k c oc h3 h4 (hs2.extBut c oc h3 (hs1.extBut c oc h4 e))
def A5G{items:Array Nj}{n:Nat}{prs:List (S4×Nj)}(hh:A.handled=none)(hl:s.heap.get? l=some ol) (hc:ol.cls=.type "list") (hd:ol.dict=none)
  (hdat:ol.data=.seq items n) (hsz:items.size=prs.length) (hln:prs.length<=sizeLine)
  (ht: ∀(j:Nat)(q:S4×Nj),prs[j]?=some q->∃(b:Nh)(u:Nj),items[j]?=some (.ref b)/\IsTup s.heap b #[u,q.2]/\A3z q.1 u=true)
  (h: ∀h' tk,h'.DictOf (K0 prog w) s.heap.objs.size (merged [] prs)->(∀b o,s.heap.get? b=some o->h'.get? b=some o)->Q (.ref s.heap.objs.size) {s with heap:=h',toks:=tk}):
  wpAny (model prog w) A (call (.type "dict") [.ref l]) Q E s:=by
 refine callType_codes (Q₁:=λobj s1=>obj=.ref s.heap.objs.size/\s1={s with heap:=s.heap.push {cls:=.type "dict",data:=.dict #[]}}) PySem.F.kt_called_dict (PySem.F.kt_typeCall_dict_1 _) PySem.F.entry_dict_init (kt_code_dict_new _ ⟨rfl,rfl⟩) ?_;rintro obj s1 ⟨rfl,rfl⟩;have hnew:(s.heap.push {cls:=.type "dict",data:=.dict #[]}).DictOf (K0 prog w) s.heap.objs.size []:=Heap.DictOf.new s.heap;have k0: ∀b o,s.heap.get? b=some o->(s.heap.push {cls:=.type "dict",data:=.dict #[]}).get? b=some o:=λb o e=>Gj _ e;refine⟨hnew.typeIs,PySem.F.args_dict_init_2 _ _,?_⟩;unfold Builtin.«dict.__init__»;refine Gc ?_;unfold Builtin.Dict.selfAndRest;refine Gc (wpAny_notOrdered_dict hnew.typeIs ?_);show wpAny _ _ (pure (s.heap.objs.size,[Value.ref l])) _ _ _;refine Gx ?_;show wpAny _ _ (Builtin.Dict.updateFrom "dict.__init__" s.heap.objs.size (.ref l) [] .none) _ _ _;unfold Builtin.Dict.updateFrom;refine Gc (wpAny_typeOf (T:="list") ⟨ol,k0 _ _ hl,hc⟩ ?_);rw[Gf (by first|decide|rfl|simp)];refine Gc (B5g (k0 _ _ hl) hc hdat hd hh λh1 tk1 hk1=>?_);rw[Gf (show(none:Option Nj).isNone=true from rfl)];refine Gc (wpAny_rule ?_);have hl1:h1.IsList l items:=⟨ol,hk1 _ _ (k0 _ _ hl),hc,n,hdat⟩
 have hS1:s.heap.objs.size<h1.objs.size:=by have e:(s.heap.push {cls:=.type "dict",data:=.dict #[]}).get? s.heap.objs.size=some {cls:=.type "dict",data:=.dict #[]}:=Hb _ rfl;exact Gu (hk1 _ _ e)
 refine Gc (wpAny_pyIter_list hl1 ?_);have k2: ∀b o,h1.get? b=some o->(h1.push {cls:=.type "list_iterator",data:=.fields #[.ref l,.int 0 0]}).get? b=some o:=λb o e=>Gj _ e;have hlt:l<s.heap.objs.size:=Gu hl
 have key:=B0R (prog:=prog) (w:=w) (A:=A.in1) (R:=wants (λr s2=>r=.none/\Q (.ref s.heap.objs.size) s2) E) (S:=s.heap.objs.size) (I:=h1.objs.size) (l:=l) (items:=items) (res:=Value.none) hh
  (Hn (Jk hlt hS1)) (Hn hS1) (Jj hlt) prs 0 [] 0 0
  {s with heap:=h1.push {cls:=.type "list_iterator",data:=.fields #[.ref l,.int 0 0]},toks:=tk1} (by rw[hsz,Nat.zero_add]) (by rw[Gr,Nat.zero_add];exact hln)
  (λj q e=>by obtain⟨b,u,e1,e2,e3⟩:=ht j q e;have hb:b<s.heap.objs.size:=e2.lt;exact⟨b,u,by rw[Nat.zero_add];exact e1,Hn hb,Hn (Jk hb hS1),e2.keeps λc o z=>k2 _ _ (hk1 _ _ (k0 _ _ z)),e3⟩)
  ⟨_,Hb _ rfl,rfl,rfl⟩ (hl1.at λo e=>k2 _ _ e) ((hnew.at λo e=>hk1 _ _ e).at λo e=>k2 _ _ e)
  (λh' tk hd' k=>⟨rfl,h h' tk hd' λb o e=>k b o (Hn (Gu e)) (Hn (Jk (Gu e) hS1)) (k2 _ _ (hk1 _ _ (k0 _ _ e)))⟩)
 first
  |exact Gx ⟨plainId_quiet A1y _,key⟩
  |exact Gc (Gx (Gx ⟨plainId_quiet A1y _,key⟩))
end
section
variable{X:Cx}
theorem B1q(I:C3 X pins S H s): ∀{ps:List Nh}{kvs:List (S4×V)},Paired (λp kv=>SqT X.K H p [kV kv.1,kv.2]) ps kvs->
  ∃prs:List (S4×Nj),KV kvs prs/\prs.length=ps.length/\∀(j:Nat)(q:S4×Nj),prs[j]?=some q->∃(b:Nh)(u:Nj),ps[j]?=some b/\IsTup s.heap b #[u,q.2]/\A3z q.1 u=true
 |_,_,.nil=>⟨[],.nil,rfl,λj q e=>by simp at e⟩
 |_,_,.cons (a:=p) (b:=kv) h t=>by
  obtain⟨prs,r,hl,hp⟩:=B1q I t;obtain⟨its,rv,ht,_⟩:=I.tuple h;obtain⟨u,y,ei,ru,ry⟩:=C0Q rv;subst ei;refine⟨(kv.1,y)::prs,.cons ⟨rfl,ry⟩ r,by rw[Ge,Ge,hl],λj q e=>?_⟩
  cases j with
  |zero=>have e':(kv.1,y)=q:=Hf e;subst e';exact⟨p,u,rfl,ht,A8F (P:=X.prog) (w:=X.w) ru⟩
  |succ j=>obtain⟨b,u',e1,e2,e3⟩:=hp j q (by simpa using e);exact⟨b,u',by simpa using e1,e2,e3⟩
theorem B3Y: ∀{ps:List Nh}{us:List Nj},C9 (ps.map V.ref) us->us=ps.map Value.ref
 |[],us,r=>by rw[Ij]at r;cases r;rfl
 |p::ps,us,r=>by
  rw[Gm]at r
  cases r with
  |cons h t=>cases h;rw[Gm,<-B3Y t]
def B3t(hcalm:X.calm=true):Y1 X (.type "dict") (λxs H Q=>∃(a:Nh)(ps:List Nh)(kvs:List (S4×V)),xs=[.ref a]/\SqL X.K H a (ps.map V.ref)/\Paired (λp kv=>SqT X.K H p [kV kv.1,kv.2]) ps kvs/\
  ∀p,H p=none->Q (.ref p) (upd H p (.dK (R9 [] kvs)))):=by
 intro pins s S H xs us Q I r q;obtain⟨a,ps,kvs,ex,hq,hp,q⟩:=q;subst ex;obtain⟨u,eu,rx⟩:=A4I r;subst eu;cases rx;obtain⟨its,rv,pl,hz⟩:=I.list hq;have ei:=B3Y rv;subst ei;rw[Gz]at hz;obtain⟨prs,rel,hl,hpr⟩:=B1q I hp;obtain⟨o,n,ho,hc,hd,hdat⟩:=pl;refine A5G (prs:=prs) (I.ok.hd hcalm) ho hc hd hdat (by simp[hl]) (by rw[hl];exact hz) (λj q' e=>?_) λh' tk hd' k=>?_
 ·obtain⟨b,u,e1,e2,e3⟩:=hpr j q' e;exact⟨b,u,by simp[e1],e2,e3⟩
 ·have hm:(s.heap.objs.size==sysModules)=false:=beq_eq_false_iff_ne.mpr (Jj I.big);have hlen:(R9 [] kvs).length<=sizeLine:=by refine Hc (A2C kvs []) ?_;rw[Gr,Nat.zero_add,rel.length,hl];exact hz
  exact⟨.ref s.heap.objs.size,upd H s.heap.objs.size (.dK (R9 [] kvs)),I.laid (t':=tk) k (Gi _) (show N6 X.prog X.w _ _ _ (.dK (R9 [] kvs)) from⟨hlen,hm,merged [] prs,KV.merge rel .nil,hd'⟩),rfl,q _ (I.hok.fresh (Gi _))⟩
end
def A68:bootBuiltins "reversed"=some (.type "reversed"):=by decide+kernel
section
variable{X:Cx}{pins:List (Nh×Obj)}{S:St}{H:Hp}{s:Ni}{h':Heap}
def C3.turnedNew{t':Nat}{ch:List Nh}{T:Nh}{ob:HO}(I:C3 X pins S H s)(k: ∀b o,b∉ch->s.heap.get? b=some o->h'.get? b=some o)(hf: ∀b∈ch,A7v X pins H b)(hT:s.heap.objs.size<=T)(new:N6 X.prog X.w (upd H T ob) h' T ob):C3 X pins S (upd H T ob) {s with heap:=h',toks:=t'}:=by
 have hn:H T=none:=I.hok.fresh hT;have nit: ∀b u,H b=some u->b∉ch:=λb u e z=>by have q:=(hf b z).1;rw[q]at e;cases e
 refine I.step (g':=s.gens) (d':=s.drawn) (ch:=ch) (λb hb=>⟨(hf b hb).2.2.2.1,(hf b hb).2.1,(hf b hb).2.2.2.2.1,(hf b hb).2.2.2.2.2⟩) (λb o _ _ hc e _=>k b o hc e) (λb o _ _ hc e _=>⟨o.slots,k b o hc e⟩)
  (λb o _ e n=>?_) (λb o hc e=>⟨o,k b o hc e⟩) (λb xs e=>?_) (λb o u e=>?_) (λb ps e=>⟨#[],?_⟩) (λm hm=>?_) (λb u e=>?_) I.bare
 ·rw[A4 (Hn (Gv (Gu e) hT))];exact n
 ·rw[A4 (A2 e hn)];exact e
 ·rw[A4 (A2 e hn)];exact e
 ·rw[A4 (A2 e hn),e];simp
 ·obtain⟨o,es,ep,ho,r⟩:=hm;exact⟨o,es,ep,k _ o (λz=>(hf _ z).2.1 rfl) ho,r⟩
 ·by_cases hb:b=T
  ·subst hb;rw[A3]at e;cases e;exact new
  ·rw[A4 hb]at e;refine(I.hok b u e).stay (λc v hc q=>k c v ?_ q) (λc q=>by rw[A4 (A2 q hn)];exact q) λc xs q=>by rw[A4 (A2 q hn)];exact q
   rcases hc with z|z
   ·rw[z];exact nit b u e
   ·exact nit c _ z
end
section
variable{X:Cx}
def B7e{R:It->Hp->Prop}{tn:Nat->Heap->Prop}{tk:Nat}(I:C3 X pins S H s)(o:Obj)(T:B3G X.prog X.w X.K tg J [s.heap.objs.size] s.heap.objs.size tn)(st:tn 0 (s.heap.push o))(q:R J H):PIE X pins S tg R (.ref s.heap.objs.size) {s with heap:=s.heap.push o,toks:=tk}:=by
 refine⟨s.heap.objs.size,[s.heap.objs.size],tn,J,H,rfl,I.kept λb ob e=>Gj _ e,T,st,λb hb=>?_,q⟩;have e:b=s.heap.objs.size:=by simpa using hb
 subst e;exact I.fpOk (Gi _) (I.hok.fresh (Gi _))
end
section
variable{X:Cx}{tg:Expr}
end
def Its(x:Str):It:=⟨λi _=>i<x.cps.size,λi H v H'=>H'=H/\∃c,x.cps[i]?=some c/\v=.str ⟨#[c]⟩,λi _=>x.cps.size<=i⟩
def B0V{P:Nk}{w:World}{K:Fg}{tg:Expr}(it:Nh)(x:Str)(t:Tok)(ty:String) (hty:ty="str_ascii_iterator"\/ty="str_iterator"):
  B3G P w K tg (Its x) [it] it (λi h=>h.IsStrIter it ty x t i) where
 mem:=by simp
 obj:=λi h st b hb=>by
  have e:b=it:=by simpa using hb
  subst e;obtain⟨o,e,c,d⟩:=st;exact⟨o,e,λv z=>by rw[d]at z;cases z⟩
 keep:=λi h h' st k=>let ⟨o,ho,r⟩:=st;⟨o,k it (by simp) o ho,r⟩
 item:=by
  intro X hP hw hK hc i pins s S H E I hf st hg;subst hP hw hK;obtain⟨f0,f1,f2,f3,f4,f5⟩:=hf it (by simp);have W:Walks X.prog X.w X.A it [it] [it] x.cps.size (SignAt x) (λi h=>h.IsStrIter it ty x t i):=by
   rcases hty with e|e
   ·rw[e];exact Walks.strAscii (I.ok.hd hc) it x t
   ·rw[e];exact Walks.strWide (I.ok.hd hc) it x t
  have hno:["enumerate","zip","dict_itemiterator","dict_reverseitemiterator","odict_iterator","itertools.zip_longest","itertools.pairwise"].contains ty=false:=by
   rcases hty with e|e
   ·rw[e];decide
   ·rw[e];decide
  refine W.item i s _ _ hg st λv h' tk hv st' kk=>?_;obtain⟨c,u,hcx,rfl⟩:=hv;have I1:C3 X pins S H {s with heap:=h',toks:=tk}:=I.turned (λb o hb e=>kk b o (by simpa using hb) e) f0 f1 f3 f4 f5;obtain⟨oi,e,cc,dd⟩:=id st';exact⟨_,rfl,B4r (s:={s with heap:=h',toks:=tk}) e cc dd hno ⟨.str ⟨#[c]⟩,H,I1,⟨u,rfl⟩,⟨rfl,c,hcx,rfl⟩,st',λb hb=>(hf b hb).1⟩⟩
 done:=by
  intro X hP hw hK hc i pins s S H E I hf st hg;subst hP hw hK;obtain⟨f0,f1,f2,f3,f4,f5⟩:=hf it (by simp);have hx:x.cps[i]?=none:=Kk hg;rcases hty with e|e
  ·rw[e]at st;exact wpAny_pyNext_ascii_end (I.ok.hd hc) st hx λh' eb=>⟨rfl,I.turned (t':=s.toks) (λb o hb e=>eb b o hb e) f0 f1 f3 f4 f5⟩
  ·rw[e]at st;exact wpAny_pyNext_wide_end (I.ok.hd hc) st hx λh' eb=>⟨rfl,I.turned (t':=s.toks) (λb o hb e=>eb b o hb e) f0 f1 f3 f4 f5⟩
 self:=λA i s Q E st h=>by
  rcases hty with e|e
  ·rw[e]at st;exact wpAny_pyIter_striter_ascii st h
  ·rw[e]at st;exact wpAny_pyIter_striter_wide st h
def C5e(te:TE):TI:=fun S H R=>te S H λv H1=>∃x,v=.str x/\R (Its x) H1
def C2g{X:Cx}{tg e:Expr}{te:TE}(he:PE X e te):PI X tg e (C5e te):=by
 intro pins s S H R I h;refine J9 (he pins s S H _ I h) λv s1 ⟨y,H1,I1,r1,x,ex,q⟩=>?_;subst ex;obtain⟨t,rfl⟩:=r1;cases ha:x.cps.all (· <128)
 ·exact wpAny_pyIter_wide ha (B7e (tk:=s1.toks) I1 _ (B0V _ x t "str_iterator" (.inr rfl)) ⟨_,Hb _ rfl,rfl,rfl⟩ q)
 ·exact wpAny_pyIter_ascii ha (B7e (tk:=s1.toks) I1 _ (B0V _ x t "str_ascii_iterator" (.inl rfl)) ⟨_,Hb _ rfl,rfl,rfl⟩ q)
section
variable{prog:Nk}{w:World}{A:Around}{E:Nj->Ni->Prop}{s:Ni}
end
section
variable{X:Cx}{pins:List (Nh×Obj)}{S:St}{H:Hp}{s:Ni}{d:Nh}{o:Obj}
end
section
variable{P:Nk}{w:World}{K:Fg}{tg:Expr}{d:Nh}{o:Obj}{es:Array DictEntry}{ep:Nat}
end
section
variable{X:Cx}{tg e:Expr}{td:TE}{apos cpos:Pos}
end
end L2
section
namespace Bits
open PySem PyProof.Rows
end Bits
end
section
namespace TL
open PySem PySem.Builtin PySem.Builtin.Str PySem.StrLaws
abbrev tl(x:Str):List Nat:=x.cps.toList
def B3b(x:Str):x.length=(tl x).length:=by simp[tl,Str.length]
def A8n(x y:Str):tl (x++y)=tl x++tl y:=by show(x++y).cps.toList=_;rw[Str.cps_append,Array.toList_append]
def pre(S l:List Nat):Bool:=l.take S.length==S
noncomputable def par(S:List Nat):List Nat->List Nat->Option (List Nat×List Nat)
 |_,[]=>none
 |acc,c::r=>if pre S (c::r)=true then some (acc,(c::r).drop S.length) else par S (acc++[c]) r
def C3m(hy:tl y≠[])(i:Nat):At x y x.length i↔pre (tl y) ((tl x).drop i)=true:=by
 have hx:=B3b x;have hl:=B3b y;constructor
 ·intro h;have h2:=h.2;rw[subAt_eq,hl]at h2;exact h2
 ·intro h;have e:((tl x).drop i).take (tl y).length=tl y:=eq_of_beq h;have e1:=Hm List.length e;rw[Iv,List.length_drop]at e1;have e2:0<(tl y).length:=List.length_pos_iff.mpr hy;refine⟨by lia,?_⟩;rw[subAt_eq,hl];exact h
def C1a(hy:tl y≠[]){i:Nat}(h: ¬At x y x.length i):pre (tl y) ((tl x).drop i)=false:=by
 cases hp:pre (tl y) ((tl x).drop i) with
 |false=>rfl
 |true=>exact Gn ((C3m hy i).mpr hp) h
def A4S(S:List Nat):List (List Nat)->List Nat
 |[]=>[]
 |[p]=>p
 |p::q::r=>p++(S++A4S S (q::r))
theorem A9F(y:Str): ∀parts:List Str,tl (Str.join y parts)=A4S (tl y) (parts.map tl)
 |[]=>rfl
 |[_]=>rfl
 |x::z::r=>by show tl (x++y++Str.join y (z::r))=tl x++(tl y++A4S (tl y) ((z::r).map tl));rw[A8n,A8n,A9F y (z::r),Hq]
def B4h(y:Str)(parts:List Str):Txt.join y parts=Str.join y parts:=glued_eq_join y parts
def A20(n:Nat):List Nat:=(Nat.toDigits 10 n).map Char.toNat
def A38(n:Nat):tl (Str.ofString (toString ((n:Nat):Int)))=A20 n:=PySem.W.KIN.signs_num n
def A2N: ∀d:Nat,d<10->(Nat.digitChar d).toNat=48+d:=by decide
def A5Q{n:Nat}(h:n<10):A20 n=[48+n]:=by unfold A20;rw[Nat.toDigits_of_lt_base h];show[(Nat.digitChar n).toNat]=_;rw[A2N n h]
def A4j{n:Nat}(h:10<=n):A20 n=A20 (n/10)++[48+n % 10]:=by have hm:n % 10<10:=Nat.mod_lt n (by decide);have t:Nat.toDigits 10 (n/10)++Nat.toDigits 10 (n % 10)=Nat.toDigits 10 (10*(n/10)+n % 10):=Nat.toDigits_append_toDigits (by decide) (by lia) hm;rw[Nat.div_add_mod]at t;show(Nat.toDigits 10 n).map Char.toNat=_;rw[<-t,Ix,Nat.toDigits_of_lt_base hm];show(Nat.toDigits 10 (n/10)).map Char.toNat++[(Nat.digitChar (n % 10)).toNat]=_;rw[A2N _ hm]<;>rfl
def B1t(n:Nat):NumText.AllDigits (A20 n):=by
 induction n using Nat.strongRecOn with
 |_ n ih=>
  by_cases h:n<10
  ·rw[A5Q h];intro c hc;rw[Gq.mp hc]
   lia
  ·rw[A4j (by lia)];intro c hc;rcases Gp.mp hc with hc|hc
   ·exact ih (n/10) (by lia) c hc
   ·have hm:n % 10<10:=Nat.mod_lt n (by decide);rw[Gq.mp hc]
    lia
def B97(n:Nat):A20 n≠[]:=by
 by_cases h:n<10
 ·rw[A5Q h];simp
 ·rw[A4j (by lia)];simp
def B7A(n:Nat):NumText.digitsVal (A20 n)=n:=PySem.W.KIN.val_back n
def A99{n:Nat}(h:(A20 n).length<=4300):intText? (Str.ofString (toString ((n:Nat):Int)))=some (n:Int):=by
 have e:=intText_digits (x:=Str.ofString (toString ((n:Nat):Int))) (by rw[show(Str.ofString (toString ((n:Nat):Int))).cps.toList=A20 n from A38 n];exact B1t n)
  (by rw[show(Str.ofString (toString ((n:Nat):Int))).cps.toList=A20 n from A38 n];exact B97 n) (by rw[B3b,A38];exact h)
 rw[show(Str.ofString (toString ((n:Nat):Int))).cps.toList=A20 n from A38 n,B7A]at e;exact e
end TL
end
namespace L2
open PySem PySem.Spec PyProof.Rows
theorem A04: ∀{ys:List Str}{us:List Nj},C9 (ys.map V.str) us->StrsAre us ys
 |[],_,.nil=>.nil
 |y::ys,_,.cons r t=>by obtain⟨k,rfl⟩:=r;exact .cons y k (A04 t)
section
variable{X:Cx}{pins:List (Nh×Obj)}{S:St}{H:Hp}{s:Ni}{Q:VK}
end
section
variable{X:Cx}
def C0a:MtR X "str.join" (λx xs H Q=>∃a p,∃ys:List Str,x=.str a/\xs=[.ref p]/\(SqL X.K H p (ys.map V.str)\/SqT X.K H p (ys.map V.str))/\
  (ys.map (·.length)).sum+ys.length*a.length<=16777216/\Q (.str (Txt.join a ys)) H):=by
 intro pins s S H x xs v us Q I rx rs h;obtain⟨a,p,ys,rfl,rfl,hp,hz,h⟩:=h;obtain⟨t,rfl⟩:=rx
 cases rs with
 |cons r1 rs=>
  cases rs;cases r1;rcases hp with hp|hp
  ·obtain⟨its,r,⟨o,n,ho,hc,_,hd⟩,_⟩:=I.list hp;exact PyProof.Rows.join_list (items:=its.toArray) ⟨o,ho,hc,n,hd⟩ (by rw[Ju];exact A04 r) hz λt' k=>⟨.str _,H,I.tok k,⟨t',rfl⟩,h⟩
  ·obtain⟨its,r,ht,_⟩:=I.tuple hp;exact PyProof.Rows.join_tuple (items:=its.toArray) ht (by rw[Ju];exact A04 r) hz λt' k=>⟨.str _,H,I.tok k,⟨t',rfl⟩,h⟩
def mt0{id:String}{C:Str->Prop}{g:Str->V}(rule: ∀(a:Str)(t:Tok)(s:Ni)(Q:Nj->Ni->Prop),C a->(∀(u:Nj)(k:Nat),D7 (g a) u->Q u {s with toks:=k})->
  wpAny (model X.prog X.w) X.A (call (.builtin id) [.str a t]) Q X.xe s):MtR X id (λx xs H Q=>∃a,x=.str a/\xs=[]/\C a/\Q (g a) H):=by
 intro pins s S H x xs v us Q I rx rs h;obtain⟨a,rfl,rfl,hc,h⟩:=h;obtain⟨t,rfl⟩:=rx;cases rs;exact rule a t s _ hc λu k r=>⟨g a,H,I.tok k,r,h⟩
def B26:MtR X "str.isdigit" (λx xs H Q=>∃a,x=.str a/\xs=[]/\True/\Q (.bl (Txt.isdigit a)) H):=
 mt0 (C:=λ_=>True) (g:=λa=>.bl (Txt.isdigit a)) λ_ _ s _ _ h=>PySem.SC.isdigit (h _ s.toks rfl)
def mt1{id:String}{g:Str->Str->V}(rule: ∀(a b:Str)(t u:Tok)(s:Ni)(Q:Nj->Ni->Prop),(∀(v:Nj)(k:Nat),D7 (g a b) v->Q v {s with toks:=k})->
  wpAny (model X.prog X.w) X.A (call (.builtin id) [.str a t,.str b u]) Q X.xe s):MtR X id (λx xs H Q=>∃a b,x=.str a/\xs=[.str b]/\Q (g a b) H):=by
 intro pins s S H x xs v us Q I rx rs h;obtain⟨a,b,rfl,rfl,h⟩:=h;obtain⟨t,rfl⟩:=rx
 cases rs with
 |cons r1 rs=>cases rs;obtain⟨u,rfl⟩:=r1;exact rule a b t u s _ λv k r=>⟨g a b,H,I.tok k,r,h⟩
def A7P:MtR X "str.startswith" (λx xs H Q=>∃a b,x=.str a/\xs=[.str b]/\Q (.bl (Txt.startswith a b)) H):=
 mt1 (g:=λa b=>.bl (Txt.startswith a b)) λ_ _ _ _ s _ h=>PySem.SC.startswith (h _ s.toks rfl)
def B0q:Y1 X (.type "int") (λxs H Q=>∃a n,xs=[.str a]/\PySem.intText? a=some n/\a.length<=640/\Q (.int n) H):=by
 intro pins s S H xs us Q I rs h;obtain⟨a,n,rfl,hn,hl,h⟩:=h
 cases rs with
 |cons r1 rs=>cases rs;obtain⟨t,rfl⟩:=r1;exact PySem.W.KIN.call_text hn hl ⟨.int n,H,I.tok _,⟨_,rfl⟩,h⟩
end
section
variable{X:Cx}{o e:Expr}{to te:TE}
def tM0(r:V->List V->Hp->VK->Prop)(to:TE):TE:=fun S H Q=>to S H λx H1=>(∃a,x=.str a)/\r x [] H1 Q
def tM1(r:V->List V->Hp->VK->Prop)(to te:TE):TE:=fun S H Q=>to S H λx H1=>(∃a,x=.str a)/\te S H1 λy H2=>r x [y] H2 Q
def C4y{id:String}{r:V->List V->Hp->VK->Prop}(slot:Slot "str" name id) (ty:typeOf (.builtin id)=pure (.type "method_descriptor")) (rule:MtR X id r) (ho:PE X o to)
  (hbase:⇑(attributeBase o name X.env (eval o X.env)=eval o X.env)) (hline:⇑((apos.endLine==pos.line)=true)):PE X (.Call (.Attribute o name apos) [] [] pos) (tM0 r to):=by
 intro pins s S H Q I h;refine PySem.Call_method0 hbase hline (J9 (ho pins s S H _ I h) λv s1 ⟨x,H1,I1,r1,q1⟩=>?_);obtain⟨⟨a,rfl⟩,q1⟩:=q1;obtain⟨t,rfl⟩:=_root_.id r1;exact⟨"str",_,F.plainAttrs_str,slot,ty,typeIs_str _ _ _,(λ_ e=>nomatch e),Calls.callWith_builtin rfl (PySem.evalArgs_none (rule pins s1 S H1 _ [] _ [] Q I1 r1 .nil q1))⟩
def C08{id:String}{r:V->List V->Hp->VK->Prop}(slot:Slot "str" name id) (ty:typeOf (.builtin id)=pure (.type "method_descriptor")) (rule:MtR X id r) (ho:PE X o to) (he:PE X e te)
  (hs:⇑(starEach [e] X.env=[(false,eval e X.env)])) (hbase:⇑(attributeBase o name X.env (eval o X.env)=eval o X.env)) (hline:⇑((apos.endLine==pos.line)=true)):
  PE X (.Call (.Attribute o name apos) [e] [] pos) (tM1 r to te):=by
 intro pins s S H Q I h;refine PySem.Call_method1 hbase hs hline (J9 (ho pins s S H _ I h) λv s1 ⟨x,H1,I1,r1,q1⟩=>?_);obtain⟨⟨a,rfl⟩,q1⟩:=q1;obtain⟨t,rfl⟩:=_root_.id r1;refine⟨"str",_,F.plainAttrs_str,slot,ty,typeIs_str _ _ _,(λ_ e=>nomatch e),Calls.callWith_builtin rfl (Calls.evalArgs_plain (Calls.spliced_cons ?_))⟩;exact J9 (he pins s1 S H1 _ I1 q1) λu s2 ⟨y,H2,I2,r2,q2⟩=>Calls.spliced_nil (rule pins s2 S H2 _ [y] _ [u] Q I2 r1 (.cons r2 .nil) q2)
def B9Q(ho:PE X o to)(he:PE X e te)(hs:⇑(starEach [e] X.env=[(false,eval e X.env)])) (hbase:⇑(attributeBase o "join" X.env (eval o X.env)=eval o X.env)) (hline:⇑((apos.endLine==pos.line)=true)):
  PE X (.Call (.Attribute o "join" apos) [e] [] pos) (tM1 (λx xs H Q=>∃a p,∃ys:List Str,x=.str a/\xs=[.ref p]/\(SqL X.K H p (ys.map V.str)\/SqT X.K H p (ys.map V.str))/\
   (ys.map (·.length)).sum+ys.length*a.length<=16777216/\Q (.str (Txt.join a ys)) H) to te):=
 C08 F.slot_str_join F.type_str_join C0a ho he hs hbase hline
end
section
variable{X:Cx}
end
def IsPart.raw{o:Option Int}(p:IsPart v o): ∃l:Option (Int×Tok),v=partValue l/\l.map (·.1)=o:=by
 cases p with
 |none=>exact⟨none,rfl,rfl⟩
 |int i t=>exact⟨some (i,t),rfl,rfl⟩
noncomputable def B12(n d:Nat):Option Int->Int
 |none=>(d:Int)
 |some i=>max 0 (min (if i<0 then i+(n:Int) else i) (n:Int))
def B11(n d:Nat)(o:Option Int):B12 n d o=((HT.sIx n d o:Nat):Int):=by
 cases o with
 |none=>rfl
 |some v=>
  show max (0:Int) (min (if v<0 then v+(n:Int) else v) (n:Int))=(((if v<0 then(v+(n:Int)).toNat else min v.toNat n):Nat):Int)
  by_cases hv:v<0
  ·dsimp[Gf hv]
   lia
  ·dsimp[Gd hv]
   lia
def B42(a b:Option Int)(n:Nat):Builtin.Str.strSliceIndices a b 1 n=sliceRange (B12 n 0 a) (B12 n n b) 1:=by
 have h1:((1:Int)>0)=True:=by simp
 cases a<;>cases b<;>first
  |rfl
  |(dsimp[Builtin.Str.strSliceIndices,B12,h1,if_true];rfl)
  |simp[Builtin.Str.strSliceIndices,B12]
def C65(a b:Option Int)(n:Nat):Builtin.Str.strSliceIndices a b 1 n=(List.range (HT.sIx n n b -HT.sIx n 0 a)).map (λk=>HT.sIx n 0 a+k):=by
 rw[B42,B11,B11];generalize HT.sIx n 0 a=p;generalize HT.sIx n n b=q;dsimp[sliceRange,show((1:Int)>0)=True from by simp,if_true];by_cases hlt:(p:Int)<q
 ·have e3:(((q:Int) -p+1 -1)/1).toNat=q -p:=by first|lia|(simp;done)|(simp;lia)
  dsimp[hlt,if_true,e3];refine Ir λk _=>?_
  lia
 ·have:q -p=0:=by lia
  simp[hlt,this]
noncomputable def A71(z:Str)(lo hi:Option Int):Str:=
 ⟨((z.cps.toList.drop (HT.sIx z.length 0 lo)).take (HT.sIx z.length z.length hi -HT.sIx z.length 0 lo)).toArray⟩
def A2z(z:Str)(lo hi:Option Int):PySem.StrLaws.sliceText z lo hi=A71 z lo hi:=by
 have h1:HT.sIx z.length 0 lo<=z.length:=HT.sIx_le _ _ (Il _) _;have h2:HT.sIx z.length z.length hi<=z.length:=HT.sIx_le _ _ (Gi _) _;have hp:HT.sIx z.length 0 lo<=max (HT.sIx z.length 0 lo) (HT.sIx z.length z.length hi):=Nat.le_max_left _ _;have hq:max (HT.sIx z.length 0 lo) (HT.sIx z.length z.length hi)<=z.length:=Nat.max_le.mpr ⟨h1,h2⟩;have hd:max (HT.sIx z.length 0 lo) (HT.sIx z.length z.length hi) -HT.sIx z.length 0 lo=HT.sIx z.length z.length hi -HT.sIx z.length 0 lo:=by lia
 have e:Builtin.Str.strSliceIndices lo hi 1 z.length=
   Builtin.Str.strSliceIndices (some ((HT.sIx z.length 0 lo:Nat):Int)) (some ((max (HT.sIx z.length 0 lo) (HT.sIx z.length z.length hi):Nat):Int)) 1 z.length:=by
  rw[PySem.StrLaws.strSliceIndices_plain hp hq,hd,C65]
 have e2:PySem.StrLaws.sliceText z lo hi=
   PySem.StrLaws.sliceText z (some ((HT.sIx z.length 0 lo:Nat):Int)) (some ((max (HT.sIx z.length 0 lo) (HT.sIx z.length z.length hi):Nat):Int)):=by
  unfold PySem.StrLaws.sliceText;rw[e]
 rw[e2,PySem.StrLaws.sliceText_nat z hp hq,hd];rfl
def B10(z:Str)(lo hi:Option Int):(A71 z lo hi).length<=z.length:=by
 show(((z.cps.toList.drop (HT.sIx z.length 0 lo)).take (HT.sIx z.length z.length hi -HT.sIx z.length 0 lo)).toArray).size<=z.cps.size;rw[Go,Iv,List.length_drop,Jw]
 lia
def C7f:V->Option Int->Option Int->Hp->VK->Prop:=λx lo hi H Q=>∃z,x=.str z/\z.length<=sizeLine/\Q (.str (A71 z lo hi)) H
def C1X:SlR X C7f:=by
 intro pins s S H x v vl vu lo hi sl Q I rx hs pl pu h;obtain⟨z,rfl,hz,q⟩:=h;obtain⟨t,rfl⟩:=rx;obtain⟨os,hos,hcs,hds⟩:=hs;obtain⟨l,rfl,rfl⟩:=IsPart.raw pl;obtain⟨u,rfl,rfl⟩:=IsPart.raw pu;refine⟨"str",_,F.slot_str_getitem.lookup,typeIs_str _ _ _,?_⟩;refine wpAny_getItem_str_slice (l:=l) (u:=u) (st:=none) ⟨os,hos,hcs,hds⟩ rfl ?_;have hl:(PySem.StrLaws.sliceText z (l.map (·.1)) (u.map (·.1))).length<=sizeLine:=by rw[A2z];exact Hc (B10 z _ _) hz
 rw[<-A2z]at q;unfold PySem.StrLaws.sliceText at q hl
 show Made.post (if((1:Int)==1&&(Builtin.Str.strSliceIndices (l.map (·.1)) (u.map (·.1)) 1 z.length).length==z.length)=true then Made.val (.str z t)
  else Made.str ⟨((Builtin.Str.strSliceIndices (l.map (·.1)) (u.map (·.1)) 1 z.length).filterMap (z.cps[·]?)).toArray⟩) (EP X pins S Q) s
 by_cases c:((1:Int)==1&&(Builtin.Str.strSliceIndices (l.map (·.1)) (u.map (·.1)) 1 z.length).length==z.length)=true
 ·rw[Gf c]at q ⊢;exact⟨.str z,H,I,⟨t,rfl⟩,q⟩
 ·rw[Gd c]at q hl ⊢;exact⟨hl,.str _,H,I.tok _,⟨_,rfl⟩,q⟩
end L2
namespace Att
open PySem PySem.W PySem.Calls PyProof.Rows
section
variable{prog:Nk}{w:World}{A:Around}{E:Nj->Ni->Prop}{s:Ni}{K:Frag}
end
end Att
namespace L2
open PySem PySem.Spec PyProof.Rows
noncomputable def Y8(s:Stmt)(j:Nat):Stmt:=match s with
 |.ClassDef _ _ _ body _ _ _ _ _ _ _=>body.getD j (.Pass ⟨0,0,0,0⟩)
 |_=>.Pass ⟨0,0,0,0⟩
noncomputable def Z1(s:Stmt):Arguments:=match s with
 |.FunctionDef _ a _ _ _ _ _ _ _ _=>a
 |_=>{posonlyargs:=[],args:=[],vararg:=none,kwonlyargs:=[],kw_defaults:=[],kwarg:=none,defaults:=[]}
def M9(s:Stmt):List Stmt:=match s with
 |.FunctionDef _ _ b _ _ _ _ _ _ _=>b
 |_=>[]
noncomputable def C6(s:Stmt):Scope:=match s with
 |.FunctionDef _ _ _ _ _ _ sc _ _ _=>sc
 |_=>{kind:=.function,names:=[],isGenerator:=false,isCoroutine:=false}
abbrev CX0:CXT:=λ_ _ _ _ _ _=>False
abbrev E0:XK:=λ_ _ _=>False
def B37:A4G CX0 X E0:=λ_ _ _ _ _ _ _ h=>h.elim
structure Fun(K:Fg)(x qual:Str)(st:Stmt)(f:Nh)(fd:FuncData):Prop where
 ex: ∃(oc:Nj)(od:Option Nh)(kV doc pm:Nj)(an:Option Nh)(cdv ct:Nj)(osl:Array (Option Nj)),
  fd=PySem.W.fnOf x qual (Z1 st) (M9 st) (C6 st) .none kV doc pm an cdv ct/\K.lookup f=some ⟨oc,od,.func fd,osl⟩/\PySem.W.codeIn K cdv qual=true
 kp:PySem.W.keepIn K (.ref f)=true
section
variable{P:Nk}{w:World}{K:Fg}{mg:MG}{base:Heap}
def Fun.ok{x qual:Str}{st:Stmt}{f:Nh}{fd:FuncData}{N ps:List Str}{k:Nat}{sp:Sp}(F:Fun K x qual st f fd)(S:W8 N ps (C6 st))(len: ∀vs H Q E,sp vs H Q E->vs.length=ps.length)(hbody: ∀(cdv:Nj)(A:Around)(outer:List Env)(s:Ni)(H:Hp)(vs:List V)(Q:VK)(E:XK),Q8 k (A.deeper (envOfC qual (C6 st) s.heap.objs.size f cdv))->sp vs H Q E->
   ∃t,PSs (B0l CX0 P w K mg base N qual (C6 st) f cdv A outer s H E).nox (M9 st) t/\t {nx:=λ_ H'=>Q .non H',rt:=Q} (A0L N vs) H):A1t P w K mg base CX0 (k+1) f fd ps sp:=by
 obtain⟨oc,od,kV,doc,pm,an,cdv,ct,osl,rfl,lk,hcd⟩:=F.ex;refine C5o lk hcd S len λA outer s H vs Q E hr hsp=>?_;obtain⟨t,h,q⟩:=hbody cdv A outer s H vs Q E hr hsp;exact⟨t,h.nox,q⟩
def Fun.binds{x qual:Str}{st:Stmt}{f:Nh}{fd:FuncData}{ps:List Str}(F:Fun K x qual st f fd)(h: ∀(kV doc pm:Nj)(an:Option Nh)(cdv ct:Nj)(us:List Nj),us.length=ps.length->bindArgs (PySem.W.fnOf x qual (Z1 st) (M9 st) (C6 st) .none kV doc pm an cdv ct) ⟨us,[]⟩=pure (ps.zip us)):A00 K fd ps []:=by
 obtain⟨oc,od,kV,doc,pm,an,cdv,ct,osl,rfl,lk,hcd⟩:=F.ex;exact .all (h kV doc pm an cdv ct)
def B77{x qual:Str}{st:Stmt}{f:Nh}{oc:Nj}{od an:Option Nh}{osl:Array (Option Nj)}{kV doc pm cdv ct:Nj}(l:K.lookup f=some ⟨oc,od,.func (PySem.W.fnOf x qual (Z1 st) (M9 st) (C6 st) .none kV doc pm an cdv ct),osl⟩)(c:PySem.W.codeIn K cdv qual=true)(k:PySem.W.keepIn K (.ref f)=true):Fun K x qual st f (PySem.W.fnOf x qual (Z1 st) (M9 st) (C6 st) .none kV doc pm an cdv ct):=⟨⟨oc,od,kV,doc,pm,an,cdv,ct,osl,rfl,l,c⟩,k⟩
end
def C5h{k:Nat}(hr:Q8 k A):A.units+1<cLine:=Hr (Nat.add_le_add_left (by decide:1<=64) _) hr.units
section
variable{X:Cx}
def pv(i:Nat){x:Str}{pos:Pos}(hN:⇑(X.N[i]?=some x))(hv:Vis X.env.scope x:=by first|exact Or.inl rfl|exact Or.inr (Or.inl rfl)|exact Or.inr (Or.inr rfl)) (hd: ~~~((x==("__debug__":Str))=false))
  (hcd: ~~~((x==("__classdict__":Str))=false)):PE X (.Name x pos) (B88 i):=B21 hN hv hd hcd
end
def A5(H H':Hp):Prop:=∀b o,H b=some o->H' b=some o
def A5.refl(H:Hp):A5 H H:=λ_ _ h=>h
def A5.trans(a:A5 H H1)(b:A5 H1 H2):A5 H H2:=λc o h=>b c o (a c o h)
def A5.free(e:A5 H H'){l:Nh}(h:H' l=Option.none):H l=Option.none:=by
 cases q:H l with
 |none=>rfl
 |some o=>rw[e l o q]at h;cases h
section
variable{S:Type}[DecidableEq S]
end
structure Cal(P:Nk)(w:World)(K:Fg)(mg:MG)(base:Heap)(k:Nat)(x:Str)(ps:List Str)(sp:Sp):Prop where
 ex: ∃f fd,A1t P w K mg base CX0 k f fd ps sp/\mg x=some (.ref f)/\PySem.W.keepIn K (.ref f)=true/\A00 K fd ps []/\∃oc od sl,K.lookup f=some ⟨oc,od,.func fd,sl⟩
structure B1(K:Fg)(mg:MG)(x:Str)(st:Stmt)(ps:List Str):Prop where
 ex: ∃f fd,Fun K x x st f fd/\mg x=some (.ref f)/\A00 K fd ps []
structure Kls(P:Nk)(w:World)(K:Fg)(mg:MG)(base:Heap)(k:Nat)(x:Str)(C:Nh)(ps:List Str)(sp:Sp):Prop where
 ex: ∃f fd,Mk K C f/\A1t P w K mg base CX0 k f fd ps sp/\mg x=some (.ref C)/\A00 K fd ps []
structure Y6(K:Fg)(mg:MG)(x qual:Str)(st:Stmt)(ps:List Str)(C:Nh):Prop where
 cl:Cls K C
 ex: ∃f fd,Mk K C f/\Fun K "__init__" qual st f fd/\mg x=some (.ref C)/\A00 K fd ps []
section
variable{P:Nk}{w:World}{K:Fg}{mg:MG}{base:Heap}
def B1.cal{x:Str}{st:Stmt}{N ps:List Str}{k:Nat}{sp:Sp}(F:B1 K mg x st ps)(S:W8 N ps (C6 st))(len: ∀vs H Q E,sp vs H Q E->vs.length=ps.length)(hbody: ∀(f:Nh)(cdv:Nj)(A:Around)(outer:List Env)(s:Ni)(H:Hp)(vs:List V)(Q:VK)(E:XK),Q8 k (A.deeper (envOfC x (C6 st) s.heap.objs.size f cdv))->sp vs H Q E->
   ∃t,PSs (B0l CX0 P w K mg base N x (C6 st) f cdv A outer s H E).nox (M9 st) t/\t {nx:=λ_ H'=>Q .non H',rt:=Q} (A0L N vs) H):Cal P w K mg base (k+1) x ps sp:=by
 obtain⟨f,fd,hF,hm,hb⟩:=F.ex;have lk: ∃oc od sl,K.lookup f=some ⟨oc,od,.func fd,sl⟩:=by obtain⟨oc,od,_,_,_,_,_,_,osl,_,lk,_⟩:=hF.ex;exact⟨oc,od,osl,lk⟩
 exact⟨f,fd,hF.ok S len (λcdv A outer s H vs Q E=>hbody f cdv A outer s H vs Q E),hm,hF.kp,hb,lk⟩
def Y6.kls{x qual:Str}{st:Stmt}{N ps:List Str}{C:Nh}{k:Nat}{sp:Sp}(F:Y6 K mg x qual st ps C)(S:W8 N ps (C6 st))(len: ∀vs H Q E,sp vs H Q E->vs.length=ps.length)(hbody: ∀(f:Nh)(cdv:Nj)(A:Around)(outer:List Env)(s:Ni)(H:Hp)(vs:List V)(Q:VK)(E:XK),Q8 k (A.deeper (envOfC qual (C6 st) s.heap.objs.size f cdv))->sp vs H Q E->
   ∃t,PSs (B0l CX0 P w K mg base N qual (C6 st) f cdv A outer s H E).nox (M9 st) t/\t {nx:=λ_ H'=>Q .non H',rt:=Q} (A0L N vs) H):Kls P w K mg base (k+1) x C ps sp:=by
 obtain⟨f,fd,hM,hF,hm,hb⟩:=F.ex;exact⟨f,fd,hM,hF.ok S len (λcdv A outer s H vs Q E=>hbody f cdv A outer s H vs Q E),hm,hb⟩
end
section
variable{X:Cx}{k:Nat}{ps:List Str}{sp:Sp}{C:Nh}{x:Str}{p pos:Pos}{e:Expr}{es:List Expr}{t:TA}
def B7r(c:Cal X.prog X.w X.K X.mg X.base k x ps sp)(hr:Q8 k X.A)(hg:Gl X x)(ha:PA X (e::es) t) (hdb: ~~~((x==("__debug__":Str))=false))
  (he:⇑(starEach (e::es) X.env=(false,eval e X.env)::starEach es X.env)) (hpl:⇑((backTo pos (starEach es X.env)).any (·.1)=false)):
  PE X (.Call (.Name x p) (e::es) [] pos) (B6C sp [] E0 t):=by
 obtain⟨f,fd,hF,hm,hk,hb,_⟩:=c.ex;exact B9T hF hr hg hm hk hb .nil B37 ha hdb he hpl
def B7k(c:Kls X.prog X.w X.K X.mg X.base k x C ps sp)(hr:Q8 (k+1) X.A)(hg:Gl X x)(ha:PA X (e::es) t) (hdb: ~~~((x==("__debug__":Str))=false))
  (he:⇑(starEach (e::es) X.env=(false,eval e X.env)::starEach es X.env)) (hpl:⇑((backTo pos (starEach es X.env)).any (·.1)=false)):
  PE X (.Call (.Name x p) (e::es) [] pos) (B0Z C sp [] E0 t):=by
 obtain⟨f,fd,hM,hF,hm,hb⟩:=c.ex;exact B9P hM hF hr hg hm hb .nil B37 ha hdb he hpl
def B48(c:Kls X.prog X.w X.K X.mg X.base k x C ps sp)(hr:Q8 (k+1) X.A)(hg:Gl X x) (hdb: ~~~((x==("__debug__":Str))=false)):
  PE X (.Call (.Name x p) [] [] pos) (B0Z C sp [] E0 B4V):=by
 obtain⟨f,fd,hM,hF,hm,hb⟩:=c.ex;exact B7l hM hF hr hg hm hb .nil B37 hdb
def B92:OpR X (binaryOp .Mult) (rI IntMulOk λi j=>.int (i*j)):=opI λ_ _ _ _ _ _ _ hc q=>mul_int q hc
end
section
variable{X:Cx}
abbrev TJ:=St->Hp->Str->VK->Prop
def PJ(X:Cx)(es:List Expr)(t:TJ):Prop:=∀(pins:List (Nh×Obj))(s:Ni)(S:St)(H:Hp)(out:Str)(Q:VK),C3 X pins S H s->t S H out Q->wpAny (model X.prog X.w) X.A (joinParts out (evalEach es X.env)) (EP X pins S Q) X.xe s
def C5a:TJ:=λ_ H out Q=>out.length<=sizeLine/\Q (.str out) H
def C49(x:Str)(u:TJ):TJ:=fun S H out Q=>(out++x).length<=sizeLine/\u S H (out++x) Q
def C48(ta:TE)(u:TJ):TJ:=fun S H out Q=>ta S H λv H1=>∃y,v=.str y/\y.length<=sizeLine/\(out++y).length<=sizeLine/\u S H1 (out++y) Q
def C2f:PJ X [] C5a:=λpins s S H out Q I h=>joinParts_nil (hsz:=h.1) ⟨.str out,H,I.tok _,⟨_,rfl⟩,h.2⟩
def C2e{j:Nat}{u:TJ}(h2:PJ X es u)(he:⇑(evalEach (.Constant (.str x) j pos::es) X.env=eval (.Constant (.str x) j pos) X.env::evalEach es X.env)):PJ X (.Constant (.str x) j pos::es) (C49 x u):=by intro pins s S H out Q I h;rw[he];refine joinParts_cons (J9 (B7h (X:=X) pins s S H (λv H1=>v=.str x/\H1=H) I ⟨rfl,rfl⟩) λw s1 ⟨v,H1,I1,r,e1,e2⟩=>?_);subst e1 e2;obtain⟨t,rfl⟩:=r;exact⟨h.1,h2 pins s1 S _ _ Q I1 h.2⟩
def C2d{u:TJ}(h1:PE X e ta)(h2:PJ X es u)(he:⇑(evalEach (.FormattedValue e (-1) none pos::es) X.env=eval (.FormattedValue e (-1) none pos) X.env::evalEach es X.env)):
  PJ X (.FormattedValue e (-1) none pos::es) (C48 ta u):=by
 intro pins s S H out Q I h;rw[he];refine joinParts_cons (FormattedValue_plain (J9 (h1 pins s S H _ I h) λw s1 ⟨v,H1,I1,r,y,ey,hy,hz,q⟩=>?_));subst ey;obtain⟨t,rfl⟩:=r;refine formatField_str (hsz:=hy) λt' tk=>?_;exact⟨hz,h2 pins {s1 with toks:=tk} S H1 _ Q (I1.tok _) q⟩
def C0U(u:TJ):TE:=fun S H Q=>u S H Str.empty Q
def B9R{u:TJ}(h:PJ X (a::b::es) u)(he:⇑(evalEach (a::b::es) X.env=eval a X.env::eval b X.env::evalEach es X.env)):PE X (.JoinedStr (a::b::es) pos) (C0U u):=by intro pins s S H Q I hq;refine JoinedStr_many ?_;rw[<-he];exact h pins s S H _ Q I hq
structure B2y(P:Nk)(w:World)(K:Fg)(a:Nh)(kvs:List (S4×V)):Prop where
 ns:(a==sysModules)=false
 ex: ∃vs,KV kvs vs/\∀h:Heap,K.In h->h.DictOf (K0 P w) a vs
def C1D(X:Cx)(td ty tx:TE):TE:=fun S H Q=>td S H λx H1=>∃a kvs,x=.ref a/\B2y X.prog X.w X.K a kvs/\ty S H1 λy H2=>tx S H2 λz H3=>∃k,y=kV k/\Q ((P2 kvs k).getD z) H3
def C6W(X:Cx)(ty td:TE):TE:=fun S H Q=>ty S H λy H1=>td S H1 λx H2=>∃a kvs k,x=.ref a/\B2y X.prog X.w X.K a kvs/\y=kV k/\Q (.bl (P2 kvs k).isSome) H2
variable{o e f i:Expr}{apos cpos pos:Pos}{td ty tx:TE}
def B7m(ho:PE X o td)(he:PE X e ty)(hf:PE X f tx) (m:M2 X o "get" apos e f cpos):PE X (.Call (.Attribute o "get" apos) [e,f] [] cpos) (C1D X td ty tx):=by
 intro pins s S H Q I h;refine wpAny_Call_method m.base m.few m.line PySem.F.plainAttrs_dict PySem.F.slot_dict_get PySem.F.type_dict_get (J9 (ho pins s S H _ I h) λu s1 ⟨x,H1,I1,rx,a,kvs,ex,d,q1⟩=>?_);subst ex;obtain rfl:u=Value.ref a:=rx;obtain⟨hd,vs,rel,dd⟩:=d;have d1:=dd _ I1.kIn;refine⟨d1.typeIs,λb q=>?_,?_⟩
 ·cases q;obtain⟨ob,_,_,h1,h2,_⟩:=d1;exact⟨ob,h1,h2.2.1⟩
 rw[m.trees];refine Calls.callWith_builtin rfl (Calls.evalArgs_plain (Calls.spliced_cons (J9 (he pins s1 S H1 _ I1 q1) λiv s2 ⟨y,H2,I2,ry,q2⟩=>
  Calls.spliced_cons (J9 (hf pins s2 S H2 _ I2 q2) λfv s3 ⟨z,H3,I3,rz,k,ek,q3⟩=>Calls.spliced_nil ?_))))
 subst ek;have d3:=dd _ I3.kIn;refine call_meetsIn PySem.F.slot_dict_get d3.typeIs PySem.F.entry_dict_get (PySem.F.args_dict_get_3 _ _ _) (meets_dict_get_default (K0 X.prog X.w) a (A8F ry) hd fv) ⟨_,d3.mapOf,?_⟩;exact⟨_,H3,I3.tok _,(rel.val k).getD rz,q3⟩
def B7t(hi:PE X i ty)(ho:PE X o td):PC X .In i o (C6W X ty td):=by intro pins s S H Q I h;refine J9 (hi pins s S H _ I h) λiv s1 ⟨y,H1,I1,ry,q1⟩=>J9 (ho pins s1 S H1 _ I1 q1) λu s2 ⟨x,H2,I2,rx,a,kvs,k,ex,d,ek,q2⟩=>?_;subst ex ek;obtain rfl:u=Value.ref a:=rx;obtain⟨hd,vs,rel,dd⟩:=d;refine wpAny_in_of (A8F ry) hd (dd _ I2.kIn).mapOf ?_;rw[<-(rel.val k).isSome_eq];exact⟨.bl _,H2,I2.tok _,rfl,q2⟩
end
end L2
namespace PySem
open Sem (wp)
namespace F
def nolen_lri:typeLookup (.type "list_reverseiterator") "__len__"=pure none:=by rw[typeLookup_type,builtinLookup_eq_fast];kernel_rfl
def hint_lri:typeLookup (.type "list_reverseiterator") "__length_hint__"=pure (some (.builtin "list_reverseiterator.__length_hint__")):=by rw[typeLookup_type,builtinLookup_eq_fast];kernel_rfl
end F
section
variable{prog:Nk}{w:World}{A:Around}{s:Ni}{R:Result->Ni->Prop}
variable{I:Nh}{fp wr:List Nh}{G:Array GenState->Array GenState->Prop}{n:Nat}{P:Nat->Nj->Prop}{St:Nat->Ni->Prop}
def A33(W:WalksS prog w A.in1 I fp wr G n P St) (hT: ∀i s,St i s->s.TypeIs (.ref I) "list_reverseiterator") (S:Nh) (res:Nj) (c0:Nat) (hst:St 0 s) (hSf:S∉fp) (hI:I∈fp)
  (hS:s.heap.get? S=some {cls:=.type "list",data:=.seq #[] c0})
  (hR: ∀s' acc' c',Moved (S::wr) G s s'->s'.heap.get? S=some {cls:=.type "list",dict:=none,data:=.seq acc' c',slots:= #[]}->ItemsOf P acc' n->R (.ok (.ret res)) s') (hn:n<=sizeLine:=by size_fits):
  wpAny (model prog w) A.in1 (Builtin.List.listExtendWith (.ref S) (.ref I) res)
   (λP3 s'=>match P3 with|.done f=>R (.ok f) s'|.again c'=>c'.quiet=true/\codeAny (model prog w) A c' R s') (λe s'=>R (.error e) s') s:=by
 have hSI:S≠I:=λe=>hSf (e▸hI);have h1:Builtin.List.listSameRef (.ref S) (.ref I)=false:=by simp[Builtin.List.listSameRef,hSI]
 unfold Builtin.List.listExtendWith;refine Gc (wpAny_typeOf (hT 0 _ hst) ?_);rw[Gd (by rw[h1];decide)];refine Gc (W.self 0 _ _ _ hst ?_);refine Gc (wpAny_holding ?_);unfold Builtin.List.listLengthHint;refine Gc (wpAny_specialOf (hT 0 _ hst) F.nolen_lri ?_);show wpAny _ A.in1 (specialOf (Value.ref I) ("__length_hint__":Str)>>=_) _ _ _;refine Gc (wpAny_specialOf (hT 0 _ hst) F.hint_lri ?_)
 (generalize hid:("list_reverseiterator.__length_hint__":String)=id0;(fail_if_success (clear hid id0));wp_delta;rw[show splitId id0=some ("list_reverseiterator","__length_hint__") from by subst hid;decide+kernel];subst hid)
 refine Gc (wpAny_isInstance (b:=true) (hT 0 _ hst) (by rw[isSubtype_type];kernel_rfl) ?_);refine Gx ?_;rw[Gd (by decide)];exact Gx ⟨plainId_quiet F.plain_extend_loop _,codeAny_extend_loopS W hn _ hSf _ n 0 _ _ _ rfl (Il _) hst hS (ItemsOf.nil P) λs' acc' c' hm hS' hacc=>hR s' acc' c' hm hS' hacc⟩
def A2r(W:WalksS prog w A.in1 I fp wr G n P St) (hT: ∀i s,St i s->s.TypeIs (.ref I) "list_reverseiterator") (S:Nh) (hst:St 0 s) (hSf:S∉fp) (hI:I∈fp)
  (hS:s.heap.get? S=some {cls:=.type "list",data:=.seq #[]})
  (hR: ∀s' acc' c',Moved (S::wr) G s s'->s'.heap.get? S=some {cls:=.type "list",dict:=none,data:=.seq acc' c',slots:= #[]}->ItemsOf P acc' n->R (.ok (.ret .none)) s') (hn:n<=sizeLine:=by size_fits):
  wpAny (model prog w) A.in1 (Builtin.«list.__init__» ⟨[.ref S,.ref I],[]⟩)
   (λP3 s'=>match P3 with|.done f=>R (.ok f) s'|.again c'=>c'.quiet=true/\codeAny (model prog w) A c' R s') (λe s'=>R (.error e) s') s:=by
 show wpAny _ A.in1 (do let old <-Builtin.List.listItems (.ref S);Builtin.List.listUpdate (.ref S) (λ_=> #[]);letGo old.toList.reverse;Builtin.List.listExtendWith (.ref S) (.ref I) .none) _ _ s;refine Gc ?_;unfold Builtin.List.listItems;refine Gc (wpAny_seqItems hS rfl (Gx ?_));show wpAny _ A.in1 (updateSeq S (λ_=> #[])>>=λ_=>letGo (#[]:Array Nj).toList.reverse>>=λ_=>Builtin.List.listExtendWith (.ref S) (.ref I) .none) _ _ s;refine Gc (wpAny_updateSeq hS rfl ?_);have hS2:=Ko (Obj.mapSeq (λ_=>(#[]:Array Nj))) hS rfl
 have oth: ∀b o,b≠S->s.heap.get? b=some o->(s.heap.update S (Obj.mapSeq (λ_=>(#[]:Array Nj)))).get? b=some o:=
  λb o hb e=>(Kj _ _ (Ii hb)).trans e
 refine Gc (wpAny_letGo ?_);refine A33 (hn:=hn) W hT S .none _ (W.frame 0 s _ s.toks hst (Gi _) λb hb o e=>oth b o (λh=>hSf (h▸hb)) e) hSf hI hS2 λs' acc' c' hm hS' hacc=>?_;exact hR s' acc' c' (Moved.trans W.gtrans ((Moved.refl W.grefl).then_heap (Gi _) λb o hb e=>oth b o (λh=>hb (h▸Hi)) e) hm) hS' hacc
end
section
variable{prog:Nk}{w:World}{A:Around}{E:Nj->Ni->Prop}{s:Ni}
variable{I:Nh}{fp wr:List Nh}{G:Array GenState->Array GenState->Prop}{n:Nat}{P:Nat->Nj->Prop}{St:Nat->Ni->Prop}
def A75(W:WalksS prog w A.in1.in1 I fp wr G n P St) (hT: ∀i s,St i s->s.TypeIs (.ref I) "list_reverseiterator") (hst:St 0 s) (hfp: ∀b∈fp,b<s.heap.objs.size) (hI:I∈fp)
  (hQ: ∀s' acc' c',Moved (s.heap.objs.size::wr) G {s with heap:=s.heap.push {cls:=.type "list",data:=.seq #[]}} s'->
   s'.heap.get? s.heap.objs.size=some {cls:=.type "list",dict:=none,data:=.seq acc' c',slots:= #[]}->ItemsOf P acc' n->Q (.ref s.heap.objs.size) s') (hn:n<=sizeLine:=by size_fits):
  wpAny (model prog w) A (call (.type "list") [.ref I]) Q E s:=by
 have hSf:s.heap.objs.size∉fp:=λhm=>Ie _ (hfp _ hm)
 refine callType_codes (Q₁:=λobj s1=>obj=.ref s.heap.objs.size/\s1={s with heap:=s.heap.push {cls:=.type "list",data:=.seq #[]}}) F.called_list (F.typeCall_list_1 _) F.entry_list_init
  (code_list_new _ ⟨rfl,rfl⟩) λobj s1 h1=>?_
 obtain⟨rfl,rfl⟩:=h1;have hS:(s.heap.push {cls:=.type "list",data:=.seq #[]}).get? s.heap.objs.size=some {cls:=.type "list",data:=.seq #[]}:=Hb _ rfl;refine⟨⟨_,hS,rfl⟩,F.args_list_init_2 _ _,A2r (hn:=hn) W hT _ (W.frame 0 s _ s.toks hst (Gi _) λb _ o e=>Gj _ e) hSf hI hS λs' acc' c' hm hS' hacc=>?_⟩;exact⟨rfl,hQ s' acc' c' hm hS' hacc⟩
end
end PySem
namespace L2
open PySem PySem.Spec PyProof.Rows
section
variable{X:Cx}
def B4I:bootBuiltins "list"=some (.type "list"):=by decide+kernel
def B6A(K:Fg)(t:TA):TE:=fun S H Q=>t S H λvs H1=>∃(a:Nh)(xs:List V),vs=[.ref a]/\SqL K H1 a xs/\∀l,H1 l=none->Q (.ref l) (upd H1 l (.lst xs.reverse))
def B22 (hg:Gl X "list") (hm:X.mg "list"=none) (hg2:Gl X "reversed") (hm2:X.mg "reversed"=none) (hc:X.calm=true) (ha:PA X [e] t)
  (hs:⇑(starEach [e] X.env=[(false,eval e X.env)]))
  (hs2:⇑(starEach [.Call (.Name "reversed" p2) [e] [] pos2] X.env=[(false,eval (.Call (.Name "reversed" p2) [e] [] pos2) X.env)])):
  PE X (.Call (.Name "list" p) [.Call (.Name "reversed" p2) [e] [] pos2] [] pos) (B6A X.K t):=by
 intro pins s S H Q I h;refine Call_ (A4p I hg hm B4I (PyProof.Rows.callWith_type1 ?_ hs2 rfl));rw[hs2];refine Calls.spliced_cons ?_;refine Call_ (A4p I hg2 hm2 A68 (PyProof.Rows.callWith_type1 (J9 (ha pos2 pins s S H _ I h) λus s1 ⟨vs,H1,I1,r1,a,xs,e1,hq,q⟩=>?_) hs rfl));subst e1;obtain⟨u,rfl,ru⟩:=r1.one;cases ru;obtain⟨its,rv,pl,hz⟩:=I1.list hq;have hl:=rv.length;refine call_reversed_list pl.isList ?_;refine Calls.spliced_nil ?_;have hal:a<s1.heap.objs.size:=let ⟨o,ho,_⟩:=pl.isList;Gu ho;have hne:a≠s1.heap.objs.size:=Hn hal;have hst:(0:Nat)<=its.toArray.size/\(s1.heap.push (revObj a ((its.toArray.size:Int) -1))).IsRevIter s1.heap.objs.size a ((its.toArray.size:Int) -1 - ((0:Nat):Int))/\(s1.heap.push (revObj a ((its.toArray.size:Int) -1))).IsList a its.toArray:=by refine⟨Il _,⟨_,Hb _ rfl,rfl,?_⟩,pl.isList.at λo e=>Gj _ e⟩;show Data.fields #[.ref a,rawInt ((its.toArray.size:Int) -1)]=_;rw[show((its.toArray.size:Int) -1 - ((0:Nat):Int))=(its.toArray.size:Int) -1 by omega]
 refine A75 (Walks.listRev (A:=X.A.in1.in1) (I1.ok.hd hc) s1.heap.objs.size a hne its.toArray).toS (λi s' st=>st.2.1.typeIs) hst (λb hb=>?_) (by simp) (λs' acc' c' hm hS' hacc=>?_) (by rw[Go];omega)
 ·rw[Hs];rcases Gk.mp hb with e|hb
  ·rw[e];exact Jq _
  ·rw[Gq.mp hb];exact Jl hal
 ·have kp: ∀b u,s1.heap.get? b=some u->s'.heap.get? b=some u:=λb u e=>by
   have hb:b<s1.heap.objs.size:=Gu e;refine hm.heap b u (λhmem=>?_) (Gj _ (Gj _ e));rw[Hs]at hmem;rcases Gk.mp hmem with e2|hmem
   ·exact Gn hb (by rw[e2];exact Nat.not_lt.mpr (Nat.le_succ _))
   ·exact Gn hb (by rw[Gq.mp hmem];exact Ie _)
  have eacc:acc'.toList=its.reverse:=by
   apply List.ext_getElem?;intro j;have hsz:acc'.size=its.length:=by rw[hacc.1,Go]
   by_cases hj:j<its.length
   ·have h1:acc'[j]?=some acc'[j]:=Array.getElem?_eq_getElem (by omega);have h2:=hacc.2 j _ h1;rw[List.getElem?_reverse hj];dsimp[Go,List.getElem?_toArray]at h2;rw[Kq,h1,<-h2]
   ·rw[He (by rw[Jw];omega),He (by rw[List.length_reverse];omega)]
  obtain⟨h',g',d',t',o'⟩:=s';have eo:o'=s1.os:=hm.os;have eg:g'=s1.gens:=hm.gens;have ed:d'=s1.drawn:=hm.drawn;subst eo eg ed;have new:N6 X.prog X.w (upd H1 (s1.heap.objs.size+1) (.lst xs.reverse)) h' (s1.heap.objs.size+1) (.lst xs.reverse):=by refine⟨by rw[List.length_reverse];exact hz,its.reverse,c',rv.reverse,?_⟩;have e5:=hS';rw[Hs]at e5;rw[show its.reverse.toArray=acc' by rw[<-eacc]];exact e5
  rw[Hs];exact⟨.ref (s1.heap.objs.size+1),_,I1.laid (t':=t') kp (Nat.le_succ _) new,rfl,q _ (I1.hok.fresh (Nat.le_succ _))⟩
def B6Z(K:Fg):V->List V->Hp->VK->Prop:=λx vs H Q=>∃l b xs zs,x=.ref l/\vs=[.ref b]/\H l=some (.lst xs)/\(SqL K H b zs\/SqT K H b zs)/\xs.length+zs.length<=sizeLine/\Q .non (upd H l (.lst (xs++zs)))
def A6o:MtM X "list.extend" (B6Z X.K):=by
 intro pins s S H x vs v us Q I rx rv h;obtain⟨l,b,xs,zs,rfl,rfl,hH,hB,hz,q⟩:=h;cases rx;obtain⟨u,rfl,ru⟩:=rv.one;cases ru;obtain⟨z,its,n,r,hl,e⟩:=I.lstM hH;obtain⟨its2,r2,T,o,n2,hT,ho,hc,hd⟩: ∃(its2:List Nj)(_:C9 zs its2)(T:String)(o:Obj)(n2:Nat),(T="list"\/T="tuple")/\s.heap.get? b=some o/\o.cls=.type T/\o.data=.seq its2.toArray n2:=by
  rcases hB with hB|hB
  ·obtain⟨its2,r2,pl,_⟩:=I.list hB;obtain⟨o,ho,hc,n,hd⟩:=pl.isList;exact⟨its2,r2,"list",o,n,.inl rfl,ho,hc,hd⟩
  ·obtain⟨its2,r2,pl,_⟩:=I.tuple hB;obtain⟨o,ho,hc,n,hd⟩:=pl;exact⟨its2,r2,"tuple",o,n,.inr rfl,ho,hc,hd⟩
 have hl2:=r2.length;have hsz:its.toArray.size+its2.toArray.size<=sizeLine:=by rw[Go,Go];lia
 have hlong: ¬(!its.toArray.isEmpty&&Builtin.List.listTooLong (its.toArray.size+its2.toArray.size))=true:=by rw[B7B hsz,Bool.and_false];exact Gs
 refine wpAny_call_entry F.slot_list_extend ⟨_,e,rfl⟩ F.entry_list_extend ?_ (F.args_list_extend_2 _ _);unfold Builtin.«list.extend»;refine Gc (wpAny_of_eq (a:=(Value.ref l,Value.ref b)) (by first|rfl|kernel_rfl) ?_);show wpAny _ _ (Builtin.List.listExtendWith (.ref l) (.ref b) .none) _ _ s;unfold Builtin.List.listExtendWith;refine Gc (wpAny_typeOf ⟨o,ho,hc⟩ ?_);have h1:(Builtin.List.listSameRef (.ref l) (.ref b)||Value.type T==Value.type "list"||Value.type T==Value.type "tuple")=true:=by rcases hT with rfl|rfl<;>simp
 dsimp[h1,if_true];refine Gc ?_;unfold Builtin.List.listItems;refine Gc (wpAny_seqItems ho hd (Gx ?_));refine Gc ?_;refine Gc (wpAny_seqItems e rfl (Gx ?_));rw[Gd hlong];show wpAny _ _ (updateSeq l (· ++its2.toArray)>>=λ_=>ret .none) _ _ s;refine Gc (wpAny_updateSeq e rfl ?_ (hz:=by rw[Go];lia) (_hz':=by rw[Array.size_append];lia));refine Gx ⟨_,rfl,?_⟩;refine⟨.non,_,I.lset (its':=its++its2) (t':=s.toks) hH e (by simp) (r.append r2) ?_,rfl,q⟩;rw[Gg]
 lia
def B9y(K:Fg):V->List V->Hp->VK->Prop:=λx vs H Q=>∃(a:Nh)(ys:List Str)(y:Str),x=.ref a/\vs=[.str y]/\SqT K H a (ys.map V.str)/\y∈ys/\Q (.int (ys.idxOf y:Nat)) H
def B5e:MtM X "tuple.index" (B9y X.K):=by
 intro pins s S H x vs v us Q I rx rv h;obtain⟨a,ys,y,rfl,rfl,hT,hy,q⟩:=h;cases rx;obtain⟨u,rfl,ru⟩:=rv.one;obtain⟨t,rfl⟩:=ru;obtain⟨its,r,⟨o,ho,hc,n,hd⟩,hz⟩:=I.tuple hT;have hl:=r.length;rw[Gz]at hl;refine wpAny_call_entry F.slot_tuple_index ⟨_,ho,hc⟩ F.entry_tuple_index ?_ (F.args_tuple_index_2 _ _);unfold Builtin.«tuple.index»;refine Gc (wpAny_of_eq (a:=(Value.ref a,[Value.str y t])) (by first|rfl|kernel_rfl) ?_)
 try dsimp only
 unfold Builtin.Tuple.tupleItemsOf;refine Gc ?_;refine Gc (wpAny_seqItems ho hd (Gx ?_))
 try dsimp only
 refine Gc (Gx ?_);refine Gc (Gx ?_);refine Gc ?_;rw[Std.Legacy.Range.forIn_eq_forIn_range'];have hsz:([:min its.toArray.size its.toArray.size]:Std.Legacy.Range).size=ys.length:=by simp[Std.Legacy.Range.size,hl]
 rw[hsz];have hlt:ys.idxOf y<ys.length:=List.idxOf_lt_length_of_mem hy;refine wpAny_forIn_list _ (λL3 b s'=>b=(none,())/\s'=s/\∃i,i<=ys.idxOf y/\L3=List.range' i (ys.length -i)) _ ?_ ?_ _ _ ⟨rfl,rfl,0,Il _,by simp⟩
 ·rintro k L3 b s' ⟨rfl,rfl,i,hi,e⟩;have hpos:ys.length -i=(ys.length -i -1)+1:=by lia
  rw[hpos,List.range'_succ]at e;injection e with e1 e2;subst e1;have hk:k<ys.length:=by lia
  have hyk:(ys.map V.str)[k]?=some (V.str ys[k]):=by rw[Ha,List.getElem?_eq_getElem hk];rfl
  obtain⟨uk,huk,ruk⟩:=r.get hyk;obtain⟨tk,rfl⟩:=ruk;have huk':its.toArray[k]?=some (Value.str ys[k] tk):=by rw[List.getElem?_toArray];exact huk
  rw[huk'];dsimp only;refine Gc (wpAny_eqBool_str ?_);by_cases hh:ys[k]=y
  ·rw[Hv hh,Gf rfl];have hki:k=ys.idxOf y:=by
    refine Nat.le_antisymm hi ?_;rcases Nat.lt_or_ge k (ys.idxOf y) with h1|h1
    ·exact Gn hh (by have:=List.not_of_lt_findIdx (p:=(· ==y)) (xs:=ys) (i:=k) h1;simpa using this)
    ·exact h1
   unfold retInt;refine Gc (Gc (wpAny_mkInt (Gx ?_)));refine Gx ?_;refine Gx ⟨_,rfl,?_⟩;rw[hki];exact⟨.int _,H,I.tok _,⟨_,rfl⟩,q⟩
  ·rw[Hk hh,Gd Gs];refine Gx ⟨rfl,rfl,k+1,?_,?_⟩
   ·rcases Nat.lt_or_eq_of_le hi with h1|h1
    ·exact h1
    ·exact Gn (by have:=List.getElem_idxOf hlt;simpa[h1] using this) hh
   ·rw[e2]
    all_goals rfl
 ·rintro b s' ⟨rfl,rfl,i,hi,e⟩;have:ys.length -i=0:=by have:=Hm List.length e;simpa using this.symm
  lia
end
end L2
namespace PySem
open Sem (wp)
section
variable{prog:Nk}{w:World}{A:Around}{E:Nj->Ni->Prop}{s:Ni}
def A3y{t:Tok}{i c:Nat}(hit:s.heap.IsStrIter it "str_ascii_iterator" x t i) (hx:x.cps[i]?=some c)
  (hQ: ∀h',h'.IsStrIter it "str_ascii_iterator" x t (i+1)->Heap.SameBut it s.heap h'->Q (.str ⟨#[c]⟩ s.toks) {s with heap:=h',toks:=s.toks+1}):
  wpAny (model prog w) A (Builtin.SmallTypes.nextOf (.ref it)) Q E s:=by
 obtain⟨o,ho,hc,hd⟩:=id hit;unfold Builtin.SmallTypes.nextOf
 refine Gc (wpAny_callSpecial?_slot (name:=("__next__":Str)) hit.typeIs F.slot_str_ascii_iterator_next
  (wpAny_call_entry F.slot_str_ascii_iterator_next hit.typeIs F.entry_str_ascii_iterator_next ?_ (F.args_str_ascii_iterator_next_1 _)))
 show wpAny _ _ (field (.ref it) 0>>=_) _ _ s;refine Gc (wpAny_field ho hd (x:=.str x t) rfl ?_);show wpAny _ _ (field (.ref it) 1>>=_) _ _ s;refine Gc (wpAny_field ho hd (x:=.int i 0) rfl ?_);dsimp[Je,hx];refine Gc (wpAny_setField ho hd (by simp) (Gc (wpAny_mkStr (Gx ⟨_,rfl,Gx (hQ _ ?_ (Heap.SameBut.update ..))⟩) (by show 1<=sizeLine;decide))));exact⟨_,Ko _ ho (Obj.isFreed_of_fields (Obj.data_mapFields hd _)),(Obj.cls_mapFields ..).trans hc,by rw[Obj.data_mapFields hd];simp[rawInt]⟩
def A4l{t:Tok}{i:Nat}(hh:A.handled=none) (hit:s.heap.IsStrIter it "str_ascii_iterator" x t i) (hx:x.cps[i]?=none)
  (hE: ∀h' e,Heap.ExtBut it s.heap h'->(∃o,h'.get? e=some o/\o.cls=.type "StopIteration")->E (.ref e) {s with heap:=h'}):wpAny (model prog w) A (Builtin.SmallTypes.nextOf (.ref it)) Q E s:=by
 obtain⟨o,ho,hc,hd⟩:=id hit;unfold Builtin.SmallTypes.nextOf
 refine Gc (wpAny_callSpecial?_slot (name:=("__next__":Str)) hit.typeIs F.slot_str_ascii_iterator_next
  (wpAny_call_entry F.slot_str_ascii_iterator_next hit.typeIs F.entry_str_ascii_iterator_next ?_ (F.args_str_ascii_iterator_next_1 _)))
 show wpAny _ _ (field (.ref it) 0>>=_) _ _ s;refine Gc (wpAny_field ho hd (x:=.str x t) rfl ?_);show wpAny _ _ (field (.ref it) 1>>=_) _ _ s;refine Gc (wpAny_field ho hd (x:=.int i 0) rfl ?_);dsimp[Je,hx];refine Gc (wpAny_rule (Gc (wpAny_setField ho hd (by simp) (Gc (wpAny_letGo ?_)))));show wpAny _ _ (newExc (.type "StopIteration") []>>=_) _ _ _;refine Gc ?_;dsimp[newExc,newTuple];refine Gc (wpAny_newObj_type ?_ (by size_fits));refine Gc (m:=firstArgMember _ _) (wpAny_of_eq (a:=Value.none) (by first|rfl|(dsimp[firstArgMember];rfl)) ?_);refine wpAny_newObj_type ?_ (by size_fits);dsimp[raiseNew];refine Gc (wpAny_handled ?_)
 first|rw[show A.in1.handled=none from hh]|rw[hh]
 refine Gc (Gx (wpAny_throw ?_));exact hE _ _ (((Heap.SameBut.update ..).extBut.push _).push _) ⟨_,Hb _ rfl,rfl⟩
def A28{e it:Nh}{i:Nat}{x old:Nj}{Q:Nj->Ni->Prop}{J:Heap->Prop}(tk1:Nat)(hJ: ∀h h':Heap,J h->(∀o,h.get? it=some o->h'.get? it=some o)->J h')(he:IsEnum s.heap e it i old)(hne:e≠it)(hnext: ∀R:Nj->Ni->Prop,(∀h',J h'->Heap.SameBut it s.heap h'->R x {s with heap:=h',toks:=tk1})->wpAny (model prog w) A (Builtin.SmallTypes.nextOf (.ref it)) R E s)
  (hQ: ∀h',IsEnumOut h' e it ((i:Int)+1) x s.heap.objs.size->J h'->
   h'.get? s.heap.objs.size=some {cls:=.type "tuple",data:=.seq #[.int i tk1,x]}->h'.objs.size=s.heap.objs.size+1->
   (∀b o,b≠e->b≠it->s.heap.get? b=some o->h'.get? b=some o)->Q (.ref s.heap.objs.size) {s with heap:=h',toks:=tk1+1}):
  wpAny (model prog w) A (Builtin.«enumerate.__next__» ⟨[.ref e],[]⟩) (λP3 s'=>∃v,P3=.done (.ret v)/\Q v s') E s:=by
 obtain⟨hp,g,d,tk0,os⟩:=s;show wpAny _ _ (field (.ref e) 2>>=_) _ _ _;refine Gc (wpAny_field he rfl (x:=.ref it) rfl ?_);refine Gc (hnext _ λh1 hit1 hs1=>?_)
 replace hs1:Heap.SameBut it hp h1:=hs1
 have he1:IsEnum h1 e it i old:=(hs1.2 e hne).trans he;show wpAny _ _ (field (.ref e) 3>>=_) _ _ ⟨h1,g,d,tk1,os⟩;refine Gc (wpAny_field he1 rfl (x:=rawInt i) rfl ?_);show wpAny _ _ (field (.ref e) 4>>=_) _ _ ⟨h1,g,d,tk1,os⟩;refine Gc (wpAny_field he1 rfl (x:=.none) rfl ?_);show wpAny _ _ (mkInt i>>=_) _ _ ⟨h1,g,d,tk1,os⟩;refine Gc (wpAny_mkInt ?_);show wpAny _ _ (setField (.ref e) 3 (rawInt ((i:Int)+1))>>=_) _ _ ⟨h1,g,d,tk1+1,os⟩;refine Gc (wpAny_setField_rec he1 (by simp) λh2 he2 hs2=>?_)
 replace hs2:Heap.SameBut e h1 h2:=hs2
 replace he2:IsEnum h2 e it ((i:Int)+1) old:=he2
 show wpAny _ _ (setField (.ref e) 4 .none>>=_) _ _ ⟨h2,g,d,tk1+1,os⟩;refine Gc (wpAny_setField_rec he2 (by simp) λh3 he3 hs3=>?_)
 replace hs3:Heap.SameBut e h2 h3:=hs3
 replace he3:IsEnum h3 e it ((i:Int)+1) old:=he3
 show wpAny _ _ (newTuple [.int i tk1,x]>>=_) _ _ ⟨h3,g,d,tk1+1,os⟩;refine Gc (wpAny_newTuple ?_);have he4:IsEnum (h3.push {cls:=.type "tuple",data:=.seq #[.int i tk1,x]}) e it ((i:Int)+1) old:=Gj _ he3;generalize hh4:h3.push {cls:=.type "tuple",data:=.seq #[.int i tk1,x]}=h4 at he4;have hsz:h3.objs.size=hp.objs.size:=by rw[hs3.1,hs2.1,hs1.1]
 have hel:e<hp.objs.size:=Gu he;have ht4:h4.get? hp.objs.size=some {cls:=.type "tuple",data:=.seq #[.int i tk1,x]}:=by rw[<-hh4,<-hsz];exact Hb _ rfl
 have hz4:h4.objs.size=hp.objs.size+1:=by rw[<-hh4,Hs,hsz]
 have hk4: ∀b o,b≠e->b≠it->hp.get? b=some o->h4.get? b=some o:=λb o hbe hbi hb=>by rw[<-hh4];exact Gj _ (hs3.extBut b o hbe (hs2.extBut b o hbe (hs1.extBut b o hbi hb)))
 have hit4:J h4:=by rw[<-hh4];exact hJ _ _ hit1 λo ho=>Gj _ (hs3.extBut it o (Ii hne) (hs2.extBut it o (Ii hne) ho))
 show wpAny _ _ (Builtin.SmallTypes.ownedTupleIsFree (.ref e)>>=_) _ _ ⟨h4,g,d,tk1+1,os⟩;rw[hsz];clear hh4 he3 hs3 he2 hs2 he1 hs1 hit1 hsz h3 h2 h1;refine Gc ?_
 ·unfold Builtin.SmallTypes.ownedTupleIsFree;refine Gc (wpAny_field he4 rfl (x:=.none) rfl (Gx ?_));dsimp[if_true];refine Gc (wpAny_rule ?_);refine Gc (wpAny_field he4 rfl (x:=old) rfl ?_);refine Gc (wpAny_setField_rec he4 (by simp) λh5 he5 hs5=>?_)
  replace hs5:Heap.SameBut e h4 h5:=hs5
  replace he5:IsEnum h5 e it ((i:Int)+1) x:=he5
  show wpAny _ _ (Builtin.SmallTypes.ownedTupleHandOut (.ref e) (.ref hp.objs.size)>>=_) _ _ ⟨h5,g,d,tk1+1,os⟩;refine Gc ?_
  ·unfold Builtin.SmallTypes.ownedTupleHandOut;refine Gc (wpAny_setField_rec he5 (by simp) λh6 he6 hs6=>?_)
   replace hs6:Heap.SameBut e h5 h6:=hs6
   replace he6:IsEnumOut h6 e it ((i:Int)+1) x hp.objs.size:=he6
   refine wpAny_setField_rec he6 (by simp) λh7 he7 hs7=>?_
   replace hs7:Heap.SameBut e h6 h7:=hs7
   replace he7:IsEnumOut h7 e it ((i:Int)+1) x hp.objs.size:=he7
   refine Gc (wpAny_letGo (Gx ⟨_,rfl,hQ h7 he7 ?_ ?_ ?_ ?_⟩))
   ·exact hJ _ _ hit4 λo ho=>hs7.extBut it o (Ii hne) (hs6.extBut it o (Ii hne) (hs5.extBut it o (Ii hne) ho))
   ·exact hs7.extBut _ _ (Jj hel) (hs6.extBut _ _ (Jj hel) (hs5.extBut _ _ (Jj hel) ht4))
   ·rw[hs7.1,hs6.1,hs5.1,hz4]
   ·exact λb o hbe hbi hb=>hs7.extBut b o hbe (hs6.extBut b o hbe (hs5.extBut b o hbe (hk4 b o hbe hbi hb)))
def A3u{i c:Nat}{t:Tok}{Q:Option Nj->Ni->Prop}(he:IsEnum s.heap e it i old) (hit:s.heap.IsStrIter it "str_ascii_iterator" x t i) (hx:x.cps[i]?=some c) (hne:e≠it)
  (hQ: ∀h',IsEnumOut h' e it ((i:Int)+1) (.str ⟨#[c]⟩ s.toks) s.heap.objs.size->h'.IsStrIter it "str_ascii_iterator" x t (i+1)->
   h'.get? s.heap.objs.size=some {cls:=.type "tuple",data:=.seq #[.int i (s.toks+1),.str ⟨#[c]⟩ s.toks]}->h'.objs.size=s.heap.objs.size+1->
   (∀b o,b≠e->b≠it->s.heap.get? b=some o->h'.get? b=some o)->Q (some (.ref s.heap.objs.size)) {s with heap:=h',toks:=s.toks+1+1}):
  wpAny (model prog w) A (pyNext (.ref e)) Q E s:=by
 have hT:s.TypeIs (.ref e) "enumerate":=⟨_,he,rfl⟩
 unfold pyNext
 refine Gc (wpAny_attempt (wpAny_callSpecial?_slot (name:=("__next__":Str)) hT F.slot_enumerate_next
  (wpAny_call_entry F.slot_enumerate_next hT F.entry_enumerate_next ?_ (F.args_enumerate_next_1 _))))
 exact A28 (s.toks+1) (J:=λh=>h.IsStrIter it "str_ascii_iterator" x t (i+1)) (λh h' ⟨o,ho,r⟩ k=>⟨o,k o ho,r⟩) he hne (λR hR=>A3y hit hx hR) λh' a b c d k=>Gx (hQ h' a b c d k)
def A1p{i:Nat}{t:Tok}{Q:Option Nj->Ni->Prop}(hh:A.handled=none)(he:IsEnum s.heap e it i old) (hit:s.heap.IsStrIter it "str_ascii_iterator" x t i) (hx:x.cps[i]?=none)
  (hQ: ∀h',Heap.ExtBut it s.heap h'->Q none {s with heap:=h'}):wpAny (model prog w) A (pyNext (.ref e)) Q E s:=by
 have hT:s.TypeIs (.ref e) "enumerate":=⟨_,he,rfl⟩
 unfold pyNext
 refine Gc (wpAny_attempt (wpAny_callSpecial?_slot (name:=("__next__":Str)) hT F.slot_enumerate_next
  (wpAny_call_entry F.slot_enumerate_next hT F.entry_enumerate_next ?_ (F.args_enumerate_next_1 _))))
 show wpAny _ _ (field (.ref e) 2>>=_) _ _ _;refine Gc (wpAny_field he rfl (x:=.ref it) rfl ?_);refine Gc (A4l hh hit hx λh' x he' hx'=>?_);obtain⟨o,ho,hc⟩:=hx';refine Gc (wpAny_isInstance (T:="StopIteration") (b:=true) ⟨o,ho,hc⟩ isSubtype_stop ?_);exact Gx (hQ _ he')
end
end PySem
namespace L2
open PySem PySem.Spec PyProof.Rows
def B8P(x:Str):It:=
 ⟨λi _=>i<x.cps.size,λi H v H'=>∃T c,v=.ref T/\H T=none/\H'=upd H T (.tup [.int (i:Nat),.str ⟨#[c]⟩])/\x.cps[i]?=some c,λi _=>x.cps.size<=i⟩
def B2N{P:Nk}{w:World}{K:Fg}{elts:List Expr}{kk:Nat}{tpos:Pos}(x:Str)(t:Tok)(e it:Nh):
  B3G P w K (.Tuple elts kk tpos) (B8P x) [e,it] e (λi h=>(∃old,IsEnum h e it ((i:Nat):Int) old)/\h.IsStrIter it "str_ascii_iterator" x t i/\e≠it) where
 mem:=by simp
 obj:=λi h st b hb=>by
  obtain⟨⟨old,he⟩,⟨o,ho,hc,hd⟩,_⟩:=st;have e':b=e\/b=it:=by simpa using hb
  rcases e' with z|z
  ·rw[z];exact⟨_,he,λv q=>nomatch q⟩
  ·rw[z];exact⟨o,ho,λv q=>by rw[hd]at q;cases q⟩
 keep:=λi h h' st k=>let ⟨⟨old,he⟩,⟨o,ho,r⟩,hne⟩:=st;⟨⟨old,k e (by simp) _ he⟩,⟨o,k it (by simp) o ho,r⟩,hne⟩
 item:=by
  intro X hP hw hK hc i pins s S H E I hf st hg;subst hP hw hK;obtain⟨⟨old,he⟩,hit,hne⟩:=st;have hx:x.cps[i]?=some x.cps[i]:=Array.getElem?_eq_getElem hg;have hel:e<s.heap.objs.size:=Gu he;have hil:it<s.heap.objs.size:=by obtain⟨_,q,_⟩:=hit;exact Gu q
  refine A3u he hit hx hne λh' ho hit' hT hsz hk=>?_;refine⟨_,rfl,wpAny_letOwnedTupleGo_enum (s:={s with heap:=h',toks:=s.toks+1+1}) ho λh'' he' sb=>?_⟩;have hT2:h''.get? s.heap.objs.size=some {cls:=.type "tuple",data:=.seq #[.int i (s.toks+1),.str ⟨#[x.cps[i]]⟩ s.toks]}:=(sb.2 _ (Jj hel)).trans hT
  have new:N6 X.prog X.w (upd H s.heap.objs.size (.tup [.int (i:Nat),.str ⟨#[x.cps[i]]⟩])) h'' s.heap.objs.size (.tup [.int (i:Nat),.str ⟨#[x.cps[i]]⟩]):=
   ⟨by show 2<=sizeLine;decide,[.int i (s.toks+1),.str ⟨#[x.cps[i]]⟩ s.toks],.cons ⟨_,rfl⟩ (.cons ⟨_,rfl⟩ .nil),⟨_,hT2,rfl,_,rfl⟩⟩
  have I1:C3 X pins S (upd H s.heap.objs.size (.tup [.int (i:Nat),.str ⟨#[x.cps[i]]⟩])) {s with heap:=h'',toks:=s.toks+1+1}:=
   I.turnedNew (ch:=[e,it]) (λb ob hb q=>(sb.2 b (λz=>hb (by simp[z]))).trans (hk b ob (λz=>hb (by simp[z])) (λz=>hb (by simp[z])) q)) hf (Gi _) new
  refine⟨.ref s.heap.objs.size,_,I1,rfl,⟨_,_,rfl,I.hok.fresh (Gi _),rfl,hx⟩,⟨⟨.str ⟨#[x.cps[i]]⟩ s.toks,?_⟩,?_,hne⟩,λb hb=>?_⟩
  ·have e1:((i+1:Nat):Int)=(i:Int)+1:=by lia
   rw[e1];exact he'
  ·obtain⟨o,hoi,r⟩:=hit';exact⟨o,(sb.2 it (Ii hne)).trans hoi,r⟩
  ·have hb':b<s.heap.objs.size:=by
    have e':b=e\/b=it:=by simpa using hb
    rcases e' with z|z
    ·rw[z];exact hel
    ·rw[z];exact hil
   rw[A4 (Hn hb')];exact(hf b hb).1
 done:=by intro X hP hw hK hc i pins s S H E I hf st hg;subst hP hw hK;obtain⟨⟨old,he⟩,hit,hne⟩:=st;obtain⟨f0,f1,f2,f3,f4,f5⟩:=hf it (by simp);have hx:x.cps[i]?=none:=Kk hg;exact A1p (I.ok.hd hc) he hit hx λh' eb=>⟨rfl,I.turned (t':=s.toks) (λb o hb q=>eb b o hb q) f0 f1 f3 f4 f5⟩
 self:=λA i s Q E st h=>let ⟨⟨_,he⟩,_⟩:=st;wpAny_pyIter_enum he h
def B7V(ta:TA):TI:=fun S H R=>ta S H λvs H1=>∃x:Str,vs=[.str x]/\x.cps.all (· <128)=true/\R (B8P x) H1
def B7f{X:Cx}{e:Expr}{ta:TA}{p pos tpos:Pos}{elts:List Expr}{kk:Nat}(hg:Gl X "enumerate") (hm:X.mg "enumerate"=none) (ha:PA X [e] ta) (hs:⇑(starEach [e] X.env=[(false,eval e X.env)])):
  PI X (.Tuple elts kk tpos) (.Call (.Name "enumerate" p) [e] [] pos) (B7V ta):=by
 intro pins s S H R I h;refine Call_ (A4p I hg hm boot_enumerate (PyProof.Rows.callWith_type1 (J9 (ha pos pins s S H _ I h) λus s1 ⟨vs,H1,I1,r1,x,ex,hasc,q⟩=>?_) hs rfl));subst ex;obtain⟨u,rfl,ru⟩:=r1.one;obtain⟨t,rfl⟩:=ru;refine call_enumerate_str λh' he hit hsz hk=>wpAny_pyIter_enum he ?_;have hty:strIterType x="str_ascii_iterator":=by unfold strIterType;rw[Gf hasc]
 rw[hty]at hit;have I2:C3 X pins S H1 {s1 with heap:=h'}:=I1.kept (t':=s1.toks) hk;refine⟨s1.heap.objs.size+1,[s1.heap.objs.size+1,s1.heap.objs.size],_,_,H1,rfl,I2,B2N x t (s1.heap.objs.size+1) s1.heap.objs.size,⟨⟨.none,he⟩,hit,Nat.succ_ne_self _⟩,λb hb=>?_,q⟩;have e':b=s1.heap.objs.size+1\/b=s1.heap.objs.size:=by simpa using hb
 have hle:s1.heap.objs.size<=b:=by
  rcases e' with z|z
  ·rw[z];exact Nat.le_add_right _ _
  ·rw[z];exact Gi _
 exact I1.fpOk hle (I1.hok.fresh hle)
set_option genInjectivity false
inductive BO where|add|sub|mul|and|or|shl|cat
inductive CO where|eq|ne|lt|le|gt|ge|isN|notN
inductive IK where|list|tup|str|frz
inductive SK where|list|str|frz
inductive Bt where|lenL|lenT|lenS|lenF|abs|max|ord|all|any|str|int|list|tuple|dict
inductive Mt where|append|extL|extT
mutual
inductive DE where
 |v(i:Nat)|int(z:Int)|bl(b:Bool)|non|str(x:Str)
 |glo(x:Str)(v:V)
 |g(C:Nh)(e:DE)(f:Str)
 |bin(o:BO)(a b:DE)
 |neg(a:DE)|inv(a:DE)|not(a:DE)
 |m(o:CO)(a b:DE)
 |inG(x:Str)(p:Nh)(xs:List V)(a:DE)
 |inK(x:Str)(p:Nh)(kvs:List (S4×V))(a:DE)
 |inD(a b:DE)
 |chain(o p:CO)(a b c:DE)
 |bool(k:Bool)(es:DA)
 |ife(t:DT)(a b:DE)
 |lst(es:DA)|tup(es:DA)
 |ix(k:IK)(a b:DE)|ixD(a b:DE)
 |ixG(x:Str)(p:Nh)(xs:List V)(b:DE)
 |sl(k:SK)(a:DE)(lo hi:DO)
 |f(f:Str)(sp:Sp)(es:DA)
 |make(x:Str)(C:Nh)(sp:Sp)(es:DA)
 |callV(i:Nat)(fn:Nh->Sp->Prop)(es:DA)
 |blt(b:Bt)(es:DA)
 |lenG(x:Str)(p:Nh)(xs:List V)
 |lrev(e:DE)
 |mt(m:Mt)(o e:DE)
 |indexG(x:Str)(p:Nh)(xs:List Str)(e:DE)
 |pop(o:DE)
 |join(o e:DE)|isdig(o:DE)|starts(o e:DE)
 |kget(x:Str)(p:Nh)(kvs:List (S4×V))(e f:DE)
 |fst(es:DF)
 |lc(own:List (Str×Nat))(g:Nat)(it:DI)(t:DW)(e:DE)
inductive DA where|z|c(e:DE)(es:DA)
inductive DO where|no|yes(e:DE)
inductive DF where|z|str(x:Str)(r:DF)|val(e:DE)(r:DF)
inductive DT where|e(e:DE)|not(t:DT)|bool(k:Bool)(ts:DTs)
inductive DTs where|one(t:DT)|c(t:DT)(ts:DTs)
inductive DW where|z|one(t:DT)
inductive DI where|list(e:DE)|tup(e:DE)|tupG(x:Str)(p:Nh)(xs:List V)|str(e:DE)|range(e:DE)|enums(e:DE)
end
inductive DG where|name(i:Nat)|two(i j:Nat)
mutual
inductive DS where
 |expr(e:DE)|r(e:DE)|retN|i(t:DT)(a b:DB)|whl(t:DT)(b:DB)|fr(g:DG)(it:DI)(b:DB)
 |set(i:Nat)(e:DE)|setF(C:Nh)(o:DE)(f:Str)(e:DE)|setI(o i e:DE)
 |setLc(i:Nat)(own:List (Str×Nat))(g:Nat)(it:DI)(t:DW)(e:DE)
inductive DB where|z|c(s:DS)(b:DB)
end
set_option genInjectivity true
def atO(C:Nh)(x:V)(H:Hp)(k:Nh->Nh->List (Str×V)->Prop):Prop:=∃a dx fs,x=.ref a/\H a=some (.ins C dx fs)/\k a dx fs
def atL(x:V)(H:Hp)(k:Nh->List V->Prop):Prop:=∃a xs,x=.ref a/\H a=some (.lst xs)/\k a xs
def atT(x:V)(H:Hp)(k:Nh->List V->Prop):Prop:=∃a xs,x=.ref a/\H a=some (.tup xs)/\k a xs
def atF(K:Fg)(x:V)(H:Hp)(k:Nh->List V->Prop):Prop:=∃a xs,x=.ref a/\SqL K H a xs/\k a xs
def S0(x:V)(k:Int->Prop):Prop:=match x with|.int i=>k i|_=>False
def asS(x:V)(k:Str->Prop):Prop:=match x with|.str i=>k i|_=>False
def asB(x:V)(k:Bool->Prop):Prop:=match x with|.bl i=>k i|_=>False
def A1q{S:Type}(o:Option S)(k:S->Prop):Prop:=match o with|some v=>k v|_=>False
def D9(f:Str)(fs:List (Str×V))(k:V->Prop):Prop:=∃v,fs.lookup f=some v/\k v
def as1(xs:List V)(k:V->Prop):Prop:=match xs with|[x]=>k x|_=>False
def as2(xs:List V)(k:V->V->Prop):Prop:=match xs with|[x,y]=>k x y|_=>False
structure C5z(i j:Int):Prop where h:IntMulOk i j
def BO.op:BO->Operator
 |.add=>.Add|.sub=>.Sub|.mul=>.Mult|.and=>.BitAnd|.or=>.BitOr|.shl=>.LShift|.cat=>.Add
def BO.r:BO->R2
 |.add=>λx y H Q=>S0 x λi=>S0 y λj=>Q (.int (i+j)) H
 |.sub=>λx y H Q=>S0 x λi=>S0 y λj=>Q (.int (i -j)) H
 |.mul=>λx y H Q=>S0 x λi=>S0 y λj=>C5z i j/\Q (.int (i*j)) H
 |.and=>λx y H Q=>S0 x λi=>S0 y λj=>Q (.int (Builtin.bitAnd i j)) H
 |.or=>λx y H Q=>S0 x λi=>S0 y λj=>Q (.int (Builtin.bitOr i j)) H
 |.shl=>λx y H Q=>S0 x λi=>S0 y λj=>C3A i j/\Q (.int (i*2^j.toNat)) H
 |.cat=>λx y H Q=>atL x H λ_ xs=>atL y H λ_ zs=>xs.length+zs.length<=sizeLine/\∀p,H p=none->Q (.ref p) (upd H p (.lst (xs++zs)))
def CO.op:CO->CmpOp
 |.eq=>.Eq|.ne=>.NotEq|.lt=>.Lt|.le=>.LtE|.gt=>.Gt|.ge=>.GtE|.isN=>.Is|.notN=>.IsNot
def CO.r:CO->R2
 |.eq=>λx y H Q=>B9w x y=true/\Q (.bl (decide (x=y))) H
 |.ne=>λx y H Q=>B9w x y=true/\Q (.bl (!decide (x=y))) H
 |.lt=>λx y H Q=>S0 x λi=>S0 y λj=>Q (.bl (decide (i<j))) H
 |.le=>λx y H Q=>S0 x λi=>S0 y λj=>Q (.bl (decide (i<=j))) H
 |.gt=>λx y H Q=>S0 x λi=>S0 y λj=>Q (.bl (decide (j<i))) H
 |.ge=>λx y H Q=>S0 x λi=>S0 y λj=>Q (.bl (decide (j<=i))) H
 |.isN=>λx y H Q=>y=.non/\Q (.bl (decide (x=.non))) H
 |.notN=>λx y H Q=>y=.non/\Q (.bl (!decide (x=.non))) H
def IK.r(K:Fg):IK->R2
 |.list=>λx y H Q=>atL x H λ_ xs=>S0 y λi=>A1q (atI xs i) λv=>Q v H
 |.tup=>λx y H Q=>atT x H λ_ xs=>S0 y λi=>A1q (atI xs i) λv=>Q v H
 |.str=>λx y H Q=>asS x λz=>S0 y λi=>z.length<=sizeLine/\A1q (atI z.cps.toList i) λc=>Q (.str ⟨#[c]⟩) H
 |.frz=>λx y H Q=>atF K x H λ_ xs=>S0 y λi=>A1q (atI xs i) λv=>Q v H
def SK.r(K:Fg):SK->V->Option Int->Option Int->Hp->VK->Prop
 |.list=>λx lo hi H Q=>atL x H λ_ xs=>∀p,H p=none->Q (.ref p) (upd H p (.lst (A2t xs lo hi)))
 |.str=>λx lo hi H Q=>asS x λz=>z.length<=sizeLine/\Q (.str (A71 z lo hi)) H
 |.frz=>λx lo hi H Q=>atF K x H λ_ xs=>∀p,H p=none->Q (.ref p) (upd H p (.lst (A2t xs lo hi)))
noncomputable def Bt.nm:Bt->Str
 |.lenL=>"len"|.lenT=>"len"|.lenS=>"len"|.lenF=>"len"|.abs=>"abs"|.max=>"max"|.ord=>"ord"|.all=>"all"|.any=>"any"|.str=>"str"|.int=>"int"|.list=>"list"|.tuple=>"tuple"|.dict=>"dict"
def Bt.r(K:Fg):Bt->List V->Hp->VK->Prop
 |.lenL=>λxs H Q=>as1 xs λx=>atL x H λ_ ys=>Q (.int ys.length) H
 |.lenT=>λxs H Q=>as1 xs λx=>atT x H λ_ ys=>Q (.int ys.length) H
 |.lenS=>λxs H Q=>as1 xs λx=>asS x λz=>z.length<=sizeLine/\Q (.int z.length) H
 |.lenF=>λxs H Q=>as1 xs λx=>atF K x H λ_ ys=>Q (.int ys.length) H
 |.abs=>λxs H Q=>as1 xs λx=>S0 x λi=>Q (.int (if i<0 then -i else i)) H
 |.max=>λxs H Q=>as2 xs λx y=>S0 x λi=>S0 y λj=>Q (.int (if j>i then j else i)) H
 |.ord=>λxs H Q=>as1 xs λx=>asS x λz=>z.length=1/\Q (.int (z.cps.getD 0 0:Nat)) H
 |.all=>λxs H Q=>as1 xs λx=>atL x H λ_ ys=>∃bs:List Bool,ys=bs.map V.bl/\Q (.bl (bs.all id)) H
 |.any=>λxs H Q=>as1 xs λx=>atL x H λ_ ys=>∃bs:List Bool,ys=bs.map V.bl/\Q (.bl (bs.any id)) H
 |.str=>λxs H Q=>as1 xs λx=>S0 x λi=>i.natAbs.log2<1920/\Q (.str (toString i)) H
 |.int=>λxs H Q=>as1 xs λx=>asS x λa=>A1q (PySem.intText? a) λn=>a.length<=640/\Q (.int n) H
 |.list=>λxs H Q=>as1 xs λx=>atL x H λ_ ys=>∀l,H l=none->Q (.ref l) (upd H l (.lst ys))
 |.tuple=>λxs H Q=>as1 xs λx=>atL x H λ_ ys=>∀l,H l=none->Q (.ref l) (upd H l (.tup ys))
 |.dict=>λxs H Q=>∃(a:Nh)(ps:List Nh)(kvs:List (S4×V)),xs=[.ref a]/\SqL K H a (ps.map V.ref)/\Paired (λp kv=>SqT K H p [kV kv.1,kv.2]) ps kvs/\∀p,H p=none->Q (.ref p) (upd H p (.dK (R9 [] kvs)))
def Mt.r:Mt->V->V->Hp->VK->Prop
 |.append=>λx y H Q=>atL x H λl xs=>xs.length<sizeLine/\Q .non (upd H l (.lst (xs++[y])))
 |.extL=>λx y H Q=>atL x H λl xs=>atL y H λ_ zs=>xs.length+zs.length<=sizeLine/\Q .non (upd H l (.lst (xs++zs)))
 |.extT=>λx y H Q=>atL x H λl xs=>atT y H λ_ zs=>xs.length+zs.length<=sizeLine/\Q .non (upd H l (.lst (xs++zs)))
def Mt.nm:Mt->Str
 |.append=>"append"|.extL=>"extend"|.extT=>"extend"
def IsL(x:V)(H:Hp):Prop:=atL x H λ_ _=>True
def B6B(i:Nat)(fn:Nh->Sp->Prop)(t:TA):TE:=fun S H Q=>∃f sp,S[i]?=some (some (.ref f))/\fn f sp/\t S H λvs H1=>sp vs H1 Q E0
def C39(to te:TE):TE:=fun S H Q=>to S H λx H1=>asS x λa=>te S H1 λy H2=>atL y H2 λ_ zs=>∃ys:List Str,zs=ys.map V.str/\(ys.map (·.length)).sum+ys.length*a.length<=16777216/\Q (.str (Txt.join a ys)) H2
def C1E(to:TE):TE:=fun S H Q=>to S H λx H1=>asS x λa=>Q (.bl (Txt.isdigit a)) H1
def B89(to te:TE):TE:=fun S H Q=>to S H λx H1=>asS x λa=>te S H1 λy H2=>asS y λb=>Q (.bl (Txt.startswith a b)) H2
def C38(kvs:List (S4×V))(ty tx:TE):TE:=fun S H Q=>ty S H λy H2=>tx S H2 λz H3=>asS y λk=>Q ((P2 kvs (.inr k)).getD z) H3
def C6V(kvs:List (S4×V))(ty:TE):TE:=fun S H Q=>ty S H λy H1=>asS y λk=>Q (.bl (P2 kvs (.inr k)).isSome) H1
def C6Y(xs:List V)(ty:TE):TE:=fun S H Q=>ty S H λy H1=>Y5 y=true/\xs.all Y5=true/\Q (.bl (inV y xs)) H1
def C6X(xs:List V)(ty:TE):TE:=fun S H Q=>ty S H λy H1=>S0 y λi=>A1q (atI xs i) λv=>Q v H1
def B9a(xs:List Str)(ty:TE):TE:=fun S H Q=>ty S H λy H1=>asS y λz=>z∈xs/\Q (.int (xs.idxOf z:Nat)) H1
def C4c(C:Nh)(ta:TE)(f:Str):TE:=fun S H Q=>ta S H λx H1=>atO C x H1 λ_ _ fs=>D9 f fs λv=>Q v H1
def C4r(C:Nh)(ta tv:TE)(f:Str):TS:=λD S H=>tv S H λy H1=>ta S H1 λx H2=>atO C x H2 λa dx fs=>fs.length<1000/\D.nx S (upd H2 a (.ins C dx (D8 f y fs)))
def tMt(r:V->V->Hp->VK->Prop)(to te:TE):TE:=fun S H Q=>to S H λx H1=>IsL x H1/\te S H1 λy H2=>r x y H2 Q
def C31(to:TE):TE:=fun S H Q=>to S H λx H1=>atL x H1 λl xs=>A1q xs[xs.length -1]? λy=>Q y (upd H1 l (.lst xs.dropLast))
def C37(te:TE):TE:=fun S H Q=>te S H λx H1=>atL x H1 λ_ xs=>∀l,H1 l=none->Q (.ref l) (upd H1 l (.lst xs.reverse))
def C7T(K:Fg)(te:TE):TI:=fun S H R=>te S H λx H1=>atL x H1 λa _=>R (Itl K a) H1
def C5d(K:Fg)(te:TE):TI:=fun S H R=>te S H λx H1=>atT x H1 λa _=>R (Itt K a) H1
def tV(i:Nat):TE:=fun S H Q=>match S[i]? with|some (some v)=>Q v H|_=>False
def tN'(ta:TE):TE:=fun S H Q=>ta S H λx H1=>asB x λc=>Q (.bl (!c)) H1
def tA'(ta tb:TE):TE:=fun S H Q=>ta S H λx H1=>asB x λc=>if c=true then tb S H1 Q else Q (.bl false) H1
def tO'(ta tb:TE):TE:=fun S H Q=>ta S H λx H1=>asB x λc=>if c=true then Q (.bl true) H1 else tb S H1 Q
def rU'(g:Int->V):V->Hp->VK->Prop:=λx H Q=>S0 x λi=>Q (g i) H
def tT'(t:TE):TT:=fun S H Q=>t S H λx H'=>asB x λk=>Q k H'
def tC'(r r':R2)(ta tb tc:TE):TE:=fun S H Q=>ta S H λx H1=>tb S H1 λy H2=>r x y H2 λz H3=>asB z λk=>(if k=true then tc S H3 λw' H4=>r' y w' H4 Q else Q (.bl false) H3)
def tP'(t:TE):TO:=fun S H Q=>t S H λx H1=>S0 x λi=>Q (some i) H1
mutual
def D2(K:Fg):DE->TE
 |.v i=>tV i
 |.int z=>tC (.int z)
 |.bl b=>tC (.bl b)
 |.non=>tC .non
 |.str x=>tC (.str x)
 |.glo _ v=>tC v
 |.g C e f=>C4c C (D2 K e) f
 |.bin o a b=>tOp o.r (D2 K a) (D2 K b)
 |.neg a=>tUn (rU' λi=>.int (-i)) (D2 K a)
 |.inv a=>tUn (rU' λi=>.int (Builtin.bitNot i)) (D2 K a)
 |.not a=>tN' (D2 K a)
 |.m o a b=>tOp o.r (D2 K a) (D2 K b)
 |.inG _ _ xs a=>C6Y xs (D2 K a)
 |.inK _ _ kvs a=>C6V kvs (D2 K a)
 |.inD a b=>C4d (D2 K a) (D2 K b)
 |.chain o p a b c=>tC' o.r p.r (D2 K a) (D2 K b) (D2 K c)
 |.bool k es=>A3a K k es
 |.ife t a b=>tIf (A0s K t) (D2 K a) (D2 K b)
 |.lst es=>C36 (A1r K es)
 |.tup es=>C3X (A1r K es)
 |.ix k a b=>tOp (k.r K) (D2 K a) (D2 K b)
 |.ixG _ _ xs b=>C6X xs (D2 K b)
 |.ixD a b=>C0W (D2 K a) (D2 K b)
 |.sl k a lo hi=>tSl (k.r K) (D2 K a) (B3p K lo) (B3p K hi)
 |.f _ sp es=>B6C sp [] E0 (A1r K es)
 |.make _ C sp es=>B0Z C sp [] E0 (A1r K es)
 |.callV i fn es=>B6B i fn (A1r K es)
 |.blt b es=>tCB (b.r K) (A1r K es)
 |.lenG _ _ xs=>tC (.int xs.length)
 |.lrev e=>C37 (D2 K e)
 |.mt m o e=>tMt m.r (D2 K o) (D2 K e)
 |.indexG _ _ xs e=>B9a xs (D2 K e)
 |.pop o=>C31 (D2 K o)
 |.join o e=>C39 (D2 K o) (D2 K e)
 |.isdig o=>C1E (D2 K o)
 |.starts o e=>B89 (D2 K o) (D2 K e)
 |.kget _ _ kvs e f=>C38 kvs (D2 K e) (D2 K f)
 |.fst es=>C0U (A70 K es)
 |.lc own g it t e=>tLc (A4x K it) (Y4 g) (B0k K t) (D2 K e) (own.map (·.2))
def A3a(K:Fg)(k:Bool):DA->TE
 |.z=>λ_ _ _=>False
 |.c e .z=>D2 K e
 |.c e es=>if k then tA' (D2 K e) (A3a K k es) else tO' (D2 K e) (A3a K k es)
def A1r(K:Fg):DA->TA
 |.z=>B4V
 |.c e es=>B3S (D2 K e) (A1r K es)
def B3p(K:Fg):DO->TO
 |.no=>B3R
 |.yes e=>tP' (D2 K e)
def A70(K:Fg):DF->TJ
 |.z=>C5a
 |.str x r=>C49 x (A70 K r)
 |.val e r=>C48 (D2 K e) (A70 K r)
def A0s(K:Fg):DT->TT
 |.e e=>tT' (D2 K e)
 |.not t=>C34 (A0s K t)
 |.bool k ts=>A0k K k ts
def A0k(K:Fg)(k:Bool):DTs->TT
 |.one t=>A0s K t
 |.c t ts=>if k then C4f (A0s K t) (A0k K k ts) else tOr (A0s K t) (A0k K k ts)
def B0k(K:Fg):DW->TT
 |.z=>C3U
 |.one t=>A0s K t
def A4x(K:Fg):DI->TI
 |.list e=>C7T K (D2 K e)
 |.tup e=>C5d K (D2 K e)
 |.tupG _ p _=>λ_ H R=>R (Itt K p) H
 |.str e=>C5e (D2 K e)
 |.range e=>C1c (B3S (D2 K e) B4V)
 |.enums e=>B7V (B3S (D2 K e) B4V)
end
def B8k(K:Fg):DG->TG
 |.name i=>Y4 i
 |.two i j=>C5l K 2 (B76 (Y4 i) (B76 (Y4 j) C5n))
mutual
def A3P(K:Fg):DS->TS
 |.expr e=>C0V (D2 K e)
 |.r e=>C30 (D2 K e)
 |.retN=>C0S
 |.i t a b=>C4a (A0s K t) (J7 K a) (J7 K b)
 |.whl t b=>B2P (A0s K t) (J7 K b)
 |.fr g it b=>C4b (A4x K it) (B8k K g) (J7 K b)
 |.set i e=>B4W (D2 K e) (Y4 i)
 |.setF C o f e=>C4r C (D2 K o) (D2 K e) f
 |.setI o i e=>B4W (D2 K e) (C5m (D2 K o) (D2 K i) C05)
 |.setLc i own g it t e=>B4W (tLc (A4x K it) (Y4 g) (B0k K t) (D2 K e) (own.map (·.2))) (Y4 i)
def J7(K:Fg):DB->TS
 |.z=>C0T
 |.c s b=>C3Z (A3P K s) (J7 K b)
end
def B4l(sc:Scope)(x:Str):Bool:=match sc.names.lookup x with
 |some .local=>true
 |some .cell=>true
 |some .free=>true
 |_=>false
def B4m(sc:Scope)(x:Str):Bool:=match sc.names.lookup x with
 |some .local=>true
 |some .cell=>true
 |_=>false
def A1h(sc:Scope)(x:Str):Bool:=match sc.names.lookup x with
 |some .globalImplicit=>true
 |_=>false
def A4O(x:Str):Bool:=!(x==("__debug__":Str))&&!(x==("__classdict__":Str))
def X8:Expr->Bool
 |.Call (.Name _ _) [] [] _=>false
 |_=>true
def A94:Expr->Bool
 |.ListComp _ _ _ _=>false
 |.SetComp _ _ _ _=>false
 |.DictComp _ _ _ _ _=>false
 |_=>true
def O9:Expr->Bool
 |.Starred _ _=>false
 |_=>true
def A3w:Expr->Bool
 |.Slice _ _ _ _=>false
 |_=>true
def A3x:Expr->Bool
 |.Set _ _ _=>false
 |_=>true
noncomputable def B7c:Expr->Bool
 |.UnaryOp .Not _ _=>false
 |.BoolOp _ _ _=>false
 |.IfExp _ _ _ _=>false
 |.Compare _ _ _ _=>false
 |_=>true
def nf{p:Prop}(h:false=true):p:=nomatch h
def dA{p:Prop}[Decidable p]{b:Bool}(h:(decide p&&b)=true):p/\b=true:=by simpa only[Ga,Gb] using h
def W9(e:Expr)(k:Str->Pos->Bool):Bool:=by cases e with|Name a b=>exact k a b|_=>exact false
def M5{k:Str->Pos->Bool}{C:Expr->Prop}(q: ∀a b,k a b=true->C (.Name a b))(e:Expr)(h:W9 e k=true):C e:=by cases e with|Name a b=>exact q a b h|_=>exact nf h
def Z7(e:Expr)(k:Const->Nat->Pos->Bool):Bool:=by cases e with|Constant a b c=>exact k a b c|_=>exact false
def X0{k:Const->Nat->Pos->Bool}{C:Expr->Prop}(q: ∀a b c,k a b c=true->C (.Constant a b c))(e:Expr)(h:Z7 e k=true):C e:=by cases e with|Constant a b c=>exact q a b c h|_=>exact nf h
def L8(e:Expr)(k:Expr->Str->Pos->Bool):Bool:=by cases e with|Attribute a b c=>exact k a b c|_=>exact false
def G7{k:Expr->Str->Pos->Bool}{C:Expr->Prop}(q: ∀a b c,k a b c=true->C (.Attribute a b c))(e:Expr)(h:L8 e k=true):C e:=by cases e with|Attribute a b c=>exact q a b c h|_=>exact nf h
def B6e(e:Expr)(k:Expr->Operator->Expr->Pos->Bool):Bool:=by cases e with|BinOp a b c d=>exact k a b c d|_=>exact false
def B6d{k:Expr->Operator->Expr->Pos->Bool}{C:Expr->Prop}(q: ∀a b c d,k a b c d=true->C (.BinOp a b c d))(e:Expr)(h:B6e e k=true):C e:=by cases e with|BinOp a b c d=>exact q a b c d h|_=>exact nf h
def A1w(e:Expr)(k:UnaryOp->Expr->Pos->Bool):Bool:=by cases e with|UnaryOp a b c=>exact k a b c|_=>exact false
def A03{k:UnaryOp->Expr->Pos->Bool}{C:Expr->Prop}(q: ∀a b c,k a b c=true->C (.UnaryOp a b c))(e:Expr)(h:A1w e k=true):C e:=by cases e with|UnaryOp a b c=>exact q a b c h|_=>exact nf h
def A0I(e:Expr)(k:Expr->(List CmpOp)->(List Expr)->Pos->Bool):Bool:=by cases e with|Compare a b c d=>exact k a b c d|_=>exact false
def L7{k:Expr->(List CmpOp)->(List Expr)->Pos->Bool}{C:Expr->Prop}(q: ∀a b c d,k a b c d=true->C (.Compare a b c d))(e:Expr)(h:A0I e k=true):C e:=by cases e with|Compare a b c d=>exact q a b c d h|_=>exact nf h
def A9y(e:Expr)(k:BoolOp->(List Expr)->Pos->Bool):Bool:=by cases e with|BoolOp a b c=>exact k a b c|_=>exact false
def A8g{k:BoolOp->(List Expr)->Pos->Bool}{C:Expr->Prop}(q: ∀a b c,k a b c=true->C (.BoolOp a b c))(e:Expr)(h:A9y e k=true):C e:=by cases e with|BoolOp a b c=>exact q a b c h|_=>exact nf h
def B6c(e:Expr)(k:Expr->Expr->Expr->Pos->Bool):Bool:=by cases e with|IfExp a b c d=>exact k a b c d|_=>exact false
def B6b{k:Expr->Expr->Expr->Pos->Bool}{C:Expr->Prop}(q: ∀a b c d,k a b c d=true->C (.IfExp a b c d))(e:Expr)(h:B6c e k=true):C e:=by cases e with|IfExp a b c d=>exact q a b c d h|_=>exact nf h
def C0O(e:Expr)(k:(List Expr)->Pos->Bool):Bool:=by cases e with|List a b=>exact k a b|_=>exact false
def B85{k:(List Expr)->Pos->Bool}{C:Expr->Prop}(q: ∀a b,k a b=true->C (.List a b))(e:Expr)(h:C0O e k=true):C e:=by cases e with|List a b=>exact q a b h|_=>exact nf h
def A9v(e:Expr)(k:(List Expr)->Nat->Pos->Bool):Bool:=by cases e with|Tuple a b c=>exact k a b c|_=>exact false
def A5U{k:(List Expr)->Nat->Pos->Bool}{C:Expr->Prop}(q: ∀a b c,k a b c=true->C (.Tuple a b c))(e:Expr)(h:A9v e k=true):C e:=by cases e with|Tuple a b c=>exact q a b c h|_=>exact nf h
def V4(e:Expr)(k:Expr->Expr->Pos->Bool):Bool:=by cases e with|Subscript a b c=>exact k a b c|_=>exact false
def U4{k:Expr->Expr->Pos->Bool}{C:Expr->Prop}(q: ∀a b c,k a b c=true->C (.Subscript a b c))(e:Expr)(h:V4 e k=true):C e:=by cases e with|Subscript a b c=>exact q a b c h|_=>exact nf h
def B6a(e:Expr)(k:(Option Expr)->(Option Expr)->(Option Expr)->Pos->Bool):Bool:=by cases e with|Slice a b c d=>exact k a b c d|_=>exact false
def B59{k:(Option Expr)->(Option Expr)->(Option Expr)->Pos->Bool}{C:Expr->Prop}(q: ∀a b c d,k a b c d=true->C (.Slice a b c d))(e:Expr)(h:B6a e k=true):C e:=by cases e with|Slice a b c d=>exact q a b c d h|_=>exact nf h
def X1(e:Expr)(k:Expr->(List Expr)->(List Keyword)->Pos->Bool):Bool:=by cases e with|Call a b c d=>exact k a b c d|_=>exact false
def M6{k:Expr->(List Expr)->(List Keyword)->Pos->Bool}{C:Expr->Prop}(q: ∀a b c d,k a b c d=true->C (.Call a b c d))(e:Expr)(h:X1 e k=true):C e:=by cases e with|Call a b c d=>exact q a b c d h|_=>exact nf h
def A5V(e:Expr)(k:(List Expr)->Pos->Bool):Bool:=by cases e with|JoinedStr a b=>exact k a b|_=>exact false
def A9w{k:(List Expr)->Pos->Bool}{C:Expr->Prop}(q: ∀a b,k a b=true->C (.JoinedStr a b))(e:Expr)(h:A5V e k=true):C e:=by cases e with|JoinedStr a b=>exact q a b h|_=>exact nf h
def A32(e:Expr)(k:Expr->(List Comprehension)->Scope->Pos->Bool):Bool:=by cases e with|ListComp a b c d=>exact k a b c d|_=>exact false
def A4H{k:Expr->(List Comprehension)->Scope->Pos->Bool}{C:Expr->Prop}(q: ∀a b c d,k a b c d=true->C (.ListComp a b c d))(e:Expr)(h:A32 e k=true):C e:=by cases e with|ListComp a b c d=>exact q a b c d h|_=>exact nf h
def A1f(e:Expr)(k:Expr->Int->(Option Expr)->Pos->Bool):Bool:=by cases e with|FormattedValue a b c d=>exact k a b c d|_=>exact false
def A3n{k:Expr->Int->(Option Expr)->Pos->Bool}{C:Expr->Prop}(q: ∀a b c d,k a b c d=true->C (.FormattedValue a b c d))(e:Expr)(h:A1f e k=true):C e:=by cases e with|FormattedValue a b c d=>exact q a b c d h|_=>exact nf h
def C0N(e:Stmt)(k:Expr->Pos->Bool):Bool:=by cases e with|Expr a b=>exact k a b|_=>exact false
def B84{k:Expr->Pos->Bool}{C:Stmt->Prop}(q: ∀a b,k a b=true->C (.Expr a b))(e:Stmt)(h:C0N e k=true):C e:=by cases e with|Expr a b=>exact q a b h|_=>exact nf h
def A9u(e:Stmt)(k:(Option Expr)->Pos->Bool):Bool:=by cases e with|Return a b=>exact k a b|_=>exact false
def A8f{k:(Option Expr)->Pos->Bool}{C:Stmt->Prop}(q: ∀a b,k a b=true->C (.Return a b))(e:Stmt)(h:A9u e k=true):C e:=by cases e with|Return a b=>exact q a b h|_=>exact nf h
def yIf(e:Stmt)(k:Expr->(List Stmt)->(List Stmt)->Pos->Bool):Bool:=by cases e with|If a b c d=>exact k a b c d|_=>exact false
def C3N{k:Expr->(List Stmt)->(List Stmt)->Pos->Bool}{C:Stmt->Prop}(q: ∀a b c d,k a b c d=true->C (.If a b c d))(e:Stmt)(h:yIf e k=true):C e:=by cases e with|If a b c d=>exact q a b c d h|_=>exact nf h
def B58(e:Stmt)(k:Expr->(List Stmt)->(List Stmt)->Pos->Bool):Bool:=by cases e with|While a b c d=>exact k a b c d|_=>exact false
def B57{k:Expr->(List Stmt)->(List Stmt)->Pos->Bool}{C:Stmt->Prop}(q: ∀a b c d,k a b c d=true->C (.While a b c d))(e:Stmt)(h:B58 e k=true):C e:=by cases e with|While a b c d=>exact q a b c d h|_=>exact nf h
def C3O(e:Stmt)(k:Expr->Expr->(List Stmt)->(List Stmt)->Pos->Bool):Bool:=by cases e with|For a b c d e=>exact k a b c d e|_=>exact false
def C1q{k:Expr->Expr->(List Stmt)->(List Stmt)->Pos->Bool}{C:Stmt->Prop}(q: ∀a b c d e,k a b c d e=true->C (.For a b c d e))(e:Stmt)(h:C3O e k=true):C e:=by cases e with|For a b c d e=>exact q a b c d e h|_=>exact nf h
def A3m(e:Stmt)(k:(List Expr)->Expr->Pos->Bool):Bool:=by cases e with|Assign a b c=>exact k a b c|_=>exact false
def A2d{k:(List Expr)->Expr->Pos->Bool}{C:Stmt->Prop}(q: ∀a b c,k a b c=true->C (.Assign a b c))(e:Stmt)(h:A3m e k=true):C e:=by cases e with|Assign a b c=>exact q a b c h|_=>exact nf h
section
variable{S:Type}
def xC(l:List S)(k:S->List S->Bool):Bool:=by cases l with|cons a l=>exact k a l|nil=>exact false
def A9x{k:S->List S->Bool}{C:List S->Prop}(q: ∀a l,k a l=true->C (a::l))(l:List S)(h:xC l k=true):C l:=by cases l with|cons a l=>exact q a l h|nil=>exact nf h
def xZ(l:List S)(k:Bool):Bool:=by cases l with|cons a l=>exact false|nil=>exact k
def A0r{k:Bool}{C:List S->Prop}(q:k=true->C [])(l:List S)(h:xZ l k=true):C l:=by cases l with|cons a l=>exact nf h|nil=>exact q h
def x1(l:List S)(k:S->Bool):Bool:=xC l λa l=>xZ l (k a)
def S6{k:S->Bool}{C:List S->Prop}(q: ∀a,k a=true->C [a]): ∀(l:List S)(h:x1 l k=true),C l:=A9x λa=>A0r (q a)
def x2(l:List S)(k:S->S->Bool):Bool:=xC l λa l=>x1 l (k a)
def B4R{k:S->S->Bool}{C:List S->Prop}(q: ∀a b,k a b=true->C [a,b]): ∀(l:List S)(h:x2 l k=true),C l:=A9x λa=>S6 (q a)
def xD(l:List S)(k:S->S->List S->Bool):Bool:=xC l λa l=>xC l (k a)
def C6C{k:S->S->List S->Bool}{C:List S->Prop}(q: ∀a b l,k a b l=true->C (a::b::l)): ∀(l:List S)(h:xD l k=true),C l:=A9x λa=>A9x (q a)
def xN(l:Option S)(k:Bool):Bool:=by cases l with|none=>exact k|some a=>exact false
def C1r{k:Bool}{C:Option S->Prop}(q:k=true->C none)(l:Option S)(h:xN l k=true):C l:=by cases l with|none=>exact q h|some a=>exact nf h
def xS(l:Option S)(k:S->Bool):Bool:=by cases l with|none=>exact false|some a=>exact k a
def C6B{k:S->Bool}{C:Option S->Prop}(q: ∀a,k a=true->C (some a))(l:Option S)(h:xS l k=true):C l:=by cases l with|none=>exact nf h|some a=>exact q a h
end
def BO.is(o:BO)(p:Operator):Bool:=decide (p=o.op)
def CO.is(o:CO)(p:CmpOp):Bool:=decide (p=o.op)
noncomputable def B13(sc:Scope)(x:Str)(e:Expr):Bool:=W9 e λy _=>decide (x=y)&&A1h sc x&&A4O x
noncomputable def ckN(N:List Str)(sc:Scope)(i:Nat)(e:Expr):Bool:=W9 e λx _=>decide (N[i]?=some x)&&B4m sc x
noncomputable def ckL(N:List Str)(sc:Scope)(i:Nat)(e:Expr):Bool:=W9 e λx _=>decide (N[i]?=some x)&&decide (sc.names.lookup x=some .local)
noncomputable def C5c:DE->Bool
 |.m _ _ _=>true|.inG _ _ _ _=>true|.inK _ _ _ _=>true|.inD _ _=>true|.chain _ _ _ _ _=>true
 |_=>false
mutual
noncomputable def V0(N:List Str)(sc:Scope):DE->Expr->Bool
 |.v i,e=>W9 e λx _=>decide (N[i]?=some x)&&B4l sc x&&A4O x
 |.int z,e=>Z7 e λc _ _=>decide (c=.int z)
 |.bl b,e=>Z7 e λc _ _=>decide (c=.bool b)
 |.non,e=>Z7 e λc _ _=>decide (c=.none)
 |.str x,e=>Z7 e λc _ _=>decide (c=.str x)
 |.glo x _,e=>W9 e λy _=>decide (x=y)&&A1h sc x&&A4O x
 |.g _ d f,e=>L8 e λe g _=>decide (f=g)&&X8 e&&V0 N sc d e
 |.bin o a b,e=>B6e e λl p r _=>o.is p&&V0 N sc a l&&V0 N sc b r
 |.neg a,e=>A1w e λop e _=>decide (op=.USub)&&V0 N sc a e
 |.inv a,e=>A1w e λop e _=>decide (op=.Invert)&&V0 N sc a e
 |.not a,e=>A1w e λop e _=>decide (op=.Not)&&V0 N sc a e
 |.m o a b,e=>A0I e λl ps rs _=>x1 ps λp=>x1 rs λr=>o.is p&&A3x r&&V0 N sc a l&&V0 N sc b r
 |.inG x _ _ a,e=>A0I e λl ps rs _=>x1 ps λp=>x1 rs λr=>decide (p=.In)&&(B13 sc x r&&V0 N sc a l)
 |.inK x _ _ a,e=>A0I e λl ps rs _=>x1 ps λp=>x1 rs λr=>decide (p=.In)&&(B13 sc x r&&V0 N sc a l)
 |.inD a b,e=>A0I e λl ps rs _=>x1 ps λp=>x1 rs λr=>decide (p=.In)&&(A3x r&&V0 N sc a l&&V0 N sc b r)
 |.chain o p a b c,e=>A0I e λl ps rs _=>x2 ps λq q'=>x2 rs λm r=>o.is q&&p.is q'&&A3x r&&V0 N sc a l&&V0 N sc b m&&V0 N sc c r
 |.bool k es,e=>A9y e λop vs _=>(match op with|.And=>k|.Or=>!k)&&ckB N sc es vs
 |.ife t a b,e=>B6c e λc l r _=>ckT N sc t c&&V0 N sc a l&&V0 N sc b r
 |.lst es,e=>C0O e λvs _=>ckA N sc es vs
 |.tup es,e=>A9v e λvs _ _=>ckA N sc es vs
 |.ix _ a b,e=>V4 e λl r _=>A3w r&&V0 N sc a l&&V0 N sc b r
 |.ixG x _ _ b,e=>V4 e λl r _=>B13 sc x l&&A3w r&&V0 N sc b r
 |.ixD a b,e=>V4 e λl r _=>A3w r&&V0 N sc a l&&V0 N sc b r
 |.sl _ a lo hi,e=>V4 e λl r _=>B6a r λm n st _=>xN st (V0 N sc a l&&ckO N sc lo m&&ckO N sc hi n)
 |.f f _ es,e=>X1 e λfn as ks _=>W9 fn λx _=>xC as λv vs=>xZ ks (decide (f=x)&&A1h sc x&&A4O x&&ckA N sc es (v::vs))
 |.make f _ _ es,e=>X1 e λfn as ks _=>W9 fn λx _=>xZ ks (decide (f=x)&&A1h sc x&&A4O x&&ckA N sc es as)
 |.callV i _ es,e=>X1 e λfn as ks _=>W9 fn λx _=>xC as λv vs=>xZ ks (decide (N[i]?=some x)&&B4l sc x&&A4O x&&ckA N sc es (v::vs))
 |.blt b es,e=>X1 e λfn as ks _=>W9 fn λx _=>xC as λv vs=>xZ ks (decide (b.nm=x)&&A1h sc x&&ckA N sc es (v::vs))
 |.lenG x _ _,e=>X1 e λfn as ks _=>W9 fn λy _=>x1 as λe=>xZ ks (decide (y="len")&&A1h sc y&&B13 sc x e)
 |.lrev d,e=>X1 e λfn as ks _=>W9 fn λx _=>x1 as λa=>xZ ks (X1 a λfn as ks _=>W9 fn λy _=>x1 as λe=>xZ ks (decide (x="list")&&decide (y="reversed")&&A1h sc x&&A1h sc y&&O9 e&&V0 N sc d e))
 |.mt m o d,e=>X1 e λfn as ks q=>L8 fn λa f p=>x1 as λe=>xZ ks (decide (m.nm=f)&&X8 a&&O9 e&&(p.endLine==q.line)&&V0 N sc o a&&V0 N sc d e)
 |.indexG x _ _ d,e=>X1 e λfn as ks q=>L8 fn λa f p=>x1 as λe=>xZ ks (decide (f="index")&&B13 sc x a&&O9 e&&(p.endLine==q.line)&&V0 N sc d e)
 |.pop o,e=>X1 e λfn as ks q=>L8 fn λa f p=>xZ as (xZ ks (decide (f="pop")&&X8 a&&(p.endLine==q.line)&&V0 N sc o a))
 |.join o d,e=>X1 e λfn as ks q=>L8 fn λa f p=>x1 as λe=>xZ ks (decide (f="join")&&X8 a&&O9 e&&(p.endLine==q.line)&&V0 N sc o a&&V0 N sc d e)
 |.isdig o,e=>X1 e λfn as ks q=>L8 fn λa f p=>xZ as (xZ ks (decide (f="isdigit")&&X8 a&&(p.endLine==q.line)&&V0 N sc o a))
 |.starts o d,e=>X1 e λfn as ks q=>L8 fn λa f p=>x1 as λe=>xZ ks (decide (f="startswith")&&X8 a&&O9 e&&(p.endLine==q.line)&&V0 N sc o a&&V0 N sc d e)
 |.kget x _ _ d c,e=>X1 e λfn as ks q=>L8 fn λa f p=>x2 as λe b=>xZ ks (decide (f="get")&&B13 sc x a&&O9 e&&O9 b&&(p.endLine==q.line)&&V0 N sc d e&&V0 N sc c b)
 |.fst es,e=>A5V e λvs _=>xD vs λv u vs=>ckF N sc es (v::u::vs)
 |.lc own g it t d,e=>A32 e λe gs scope _=>x1 gs λc=>decide (c.is_async=0)&&A3x c.iter&&B8z N sc scope own&&ckI N sc it c.target c.iter&&ckL N (A7M scope sc) g c.target&&ckW N (A7M scope sc) t c.ifs&&V0 N (A7M scope sc) d e
noncomputable def ckB(N:List Str)(sc:Scope):DA->List Expr->Bool
 |.c d .z,[e]=>V0 N sc d e
 |.c d (.c c es),e::b::vs=>V0 N sc d e&&ckB N sc (.c c es) (b::vs)
 |_,_=>false
noncomputable def ckA(N:List Str)(sc:Scope):DA->List Expr->Bool
 |.z,[]=>true
 |.c d ds,e::es=>O9 e&&V0 N sc d e&&ckA N sc ds es
 |_,_=>false
noncomputable def ckO(N:List Str)(sc:Scope):DO->Option Expr->Bool
 |.no,none=>true
 |.yes d,some e=>V0 N sc d e
 |_,_=>false
noncomputable def ckF(N:List Str)(sc:Scope):DF->List Expr->Bool
 |.z,es=>xZ es true
 |.str x r,es=>xC es λe es=>Z7 e λc _ _=>decide (c=.str x)&&ckF N sc r es
 |.val d r,es=>xC es λe es=>A1f e λe k f _=>xN f (decide (k= -1)&&V0 N sc d e&&ckF N sc r es)
noncomputable def ckT(N:List Str)(sc:Scope):DT->Expr->Bool
 |.e d,e=>(C5c d||B7c e)&&V0 N sc d e
 |.not t,e=>A1w e λop e _=>decide (op=.Not)&&ckT N sc t e
 |.bool k ts,e=>A9y e λop vs _=>(match op with|.And=>k|.Or=>!k)&&C29 N sc ts vs
noncomputable def C29(N:List Str)(sc:Scope):DTs->List Expr->Bool
 |.one t,[e]=>ckT N sc t e
 |.c t ts,e::b::es=>ckT N sc t e&&C29 N sc ts (b::es)
 |_,_=>false
noncomputable def ckW(N:List Str)(sc:Scope):DW->List Expr->Bool
 |.z,[]=>true
 |.one t,[e]=>ckT N sc t e
 |_,_=>false
noncomputable def ckI(N:List Str)(sc:Scope):DI->Expr->Expr->Bool
 |.list d,_,e=>V0 N sc d e
 |.tup d,_,e=>V0 N sc d e
 |.tupG x _ _,_,e=>B13 sc x e
 |.str d,_,e=>V0 N sc d e
 |.range d,_,e=>X1 e λfn as ks _=>W9 fn λx _=>x1 as λe=>xZ ks (decide (x="range")&&A1h sc x&&O9 e&&V0 N sc d e)
 |.enums d,tg,e=>A9v tg λ_ _ _=>X1 e λfn as ks _=>W9 fn λx _=>x1 as λe=>xZ ks (decide (x="enumerate")&&A1h sc x&&O9 e&&V0 N sc d e)
end
structure Wd where
 P:Nk
 w:World
 K:Fg
 mg:Str->Option Nj
 base:Heap
 A:Around
abbrev Cx.wd(X:Cx):Wd:=⟨X.prog,X.w,X.K,X.mg,X.base,X.A⟩
def B8T(W:Wd)(f:Str)(sp:Sp):Prop:=∃k ps,Cal W.P W.w W.K W.mg W.base k f ps sp/\Q8 k W.A
def B8O(W:Wd)(x:Str)(C:Nh)(sp:Sp):Prop:=∃k ps,Kls W.P W.w W.K W.mg W.base k x C ps sp/\Q8 (k+1) W.A
def C0L(W:Wd)(f:Nh)(sp:Sp):Prop:=PySem.W.keepIn W.K (.ref f)=true/\∃k fd ps,A1t W.P W.w W.K W.mg W.base CX0 k f fd ps sp/\Q8 k W.A/\A00 W.K fd ps []
def B2A(W:Wd)(x:Str)(v:V):Prop:=∃u,W.mg x=some u/\D7 v u
def C1p(W:Wd)(x:Str):Prop:=W.mg x=none
def B3I(K:Fg)(p:Nh)(xs:List V):Prop:=∃(o:Obj)(its:Array Nj)(n:Nat),K.lookup p=some o/\o.cls=.type "tuple"/\o.dict=none/\o.data=.seq its n/\its.size<=sizeLine/\C9 xs its.toList
def B3I.sq{K:Fg}{p:Nh}{xs:List V}(h:B3I K p xs)(H:Hp):SqT K H p xs:=by obtain⟨o,its,n,h1,h2,_,h3,h4,h5⟩:=h;exact .inr ⟨o,its,n,h1,h2,h3,h4,h5⟩
def B8R(W:Wd)(x:Str)(p:Nh)(xs:List V):Prop:=B2A W x (.ref p)/\B3I W.K p xs
def B4P(W:Wd)(x:Str)(p:Nh)(kvs:List (S4×V)):Prop:=B2A W x (.ref p)/\B2y W.P W.w W.K p kvs
def C1o(W:Wd)(C:Nh)(f:Str):Prop:=Cls W.K C/\A1d W.K C f
def kNx(Q:VK):St->Hp->Prop:=λ_ H=>Q .non H
inductive Bk
 |blt(x:Str)|glo(x:Str)(v:V)|tup(x:Str)(p:Nh)(xs:List V)|dict(x:Str)(p:Nh)(kvs:List (S4×V))|fld(C:Nh)(f:Str)
def Bk.ok(W:Wd):Bk->Prop
 |.blt x=>C1p W x
 |.glo x v=>B2A W x v
 |.tup x p xs=>B8R W x p xs
 |.dict x p kvs=>B4P W x p kvs
 |.fld C f=>C1o W C f
noncomputable def Bk.is:Bk->Bk->Bool
 |.blt x,.blt y=>decide (x=y)
 |.glo x v,.glo y u=>decide (x=y)&&decide (v=u)
 |.tup x p xs,.tup y q ys=>decide (x=y)&&decide (p=q)&&decide (xs=ys)
 |.dict x p k,.dict y q l=>decide (x=y)&&decide (p=q)&&decide (k=l)
 |.fld C f,.fld D g=>decide (C=D)&&decide (f=g)
 |_,_=>false
def Bk.is_eq{a b:Bk}(h:a.is b=true):a=b:=by cases a<;>cases b<;>first|exact nf h|(replace h:=of_decide_eq_true h;subst h;rfl)|(change (_&&_)=true at h;dsimp[Ga,Gb]at h;first|(obtain⟨rfl,rfl⟩:=h;rfl)|(obtain⟨⟨rfl,rfl⟩,rfl⟩:=h;rfl))
inductive Al(W:Wd):List Bk->Prop
 |z:Al W []
 |c{k:Bk}{l:List Bk}(_:k.ok W)(_:Al W l):Al W (k::l)
def Al.mem{W:Wd}{l:List Bk}(h:Al W l): ∀k∈l,k.ok W:=by
 induction h with
 |z=>exact λ_ h=>nomatch h
 |c a _ ih=>exact λk h=>(Gk.mp h).elim (λe=>e▸a) (ih k)
inductive Tr
 |z|b(k:Bk)|f(f:Str)(sp:Sp)|k(x:Str)(C:Nh)(sp:Sp)|v(fn:Nh->Sp->Prop)|n(l r:Tr)
def Tr.ok(W:Wd):Tr->Prop
 |.z=>True
 |.b i=>i.ok W
 |.f g sp=>B8T W g sp
 |.k x C sp=>B8O W x C sp
 |.v fn=>∀g sp,fn g sp->C0L W g sp
 |.n l r=>l.ok W/\r.ok W
def Tr.bas(t:List Bk):Tr->Bool
 |.b i=>t.any i.is
 |.n l r=>l.bas t&&r.bas t
 |_=>true
def Tr.need(W:Wd):Tr->Prop->Prop
 |.n l r,p=>l.need W (r.need W p)
 |.f g sp,p=>B8T W g sp/\p
 |.k x C sp,p=>B8O W x C sp/\p
 |.v fn,p=>(∀g sp,fn g sp->C0L W g sp)/\p
 |.z,p=>p
 |.b _,p=>p
theorem Tr.by{W:Wd}{t:List Bk}(ht: ∀k∈t,k.ok W)(x:Tr)(e:x.bas t=true){p:Prop}(h:x.need W p):x.ok W/\p:=by
 induction x generalizing p with
 |z=>exact⟨trivial,h⟩
 |b k=>obtain⟨y,hy,q⟩:=List.any_eq_true.mp e;have e2:=Bk.is_eq q;subst e2;exact⟨ht k hy,h⟩
 |f g sp=>exact h
 |k x C sp=>exact h
 |v fn=>exact h
 |n l r h1 h2=>have e':=Bool.and_eq_true_iff.mp e;have a:=h1 e'.1 h;have b:=h2 e'.2 a.2;exact⟨⟨a.1,b.1⟩,b.2⟩
mutual
noncomputable def V7:DE->Tr
 |.glo x v=>.b (.glo x v)
 |.g C e f=>.n (.b (.fld C f)) (V7 e)
 |.bin _ a b=>.n (V7 a) (V7 b)
 |.neg a=>V7 a
 |.inv a=>V7 a
 |.not a=>V7 a
 |.m _ a b=>.n (V7 a) (V7 b)
 |.inG x p xs a=>.n (.b (.tup x p xs)) (V7 a)
 |.inK x p kvs a=>.n (.b (.dict x p kvs)) (V7 a)
 |.inD a b=>.n (V7 a) (V7 b)
 |.chain _ _ a b c=>.n (V7 a) (.n (V7 b) (V7 c))
 |.bool _ es=>trA es
 |.ife t a b=>.n (trT t) (.n (V7 a) (V7 b))
 |.lst es=>trA es
 |.tup es=>trA es
 |.ix _ a b=>.n (V7 a) (V7 b)
 |.ixD a b=>.n (V7 a) (V7 b)
 |.ixG x p xs b=>.n (.b (.tup x p xs)) (V7 b)
 |.sl _ a lo hi=>.n (V7 a) (.n (trO lo) (trO hi))
 |.f f sp es=>.n (.f f sp) (trA es)
 |.make x C sp es=>.n (.k x C sp) (trA es)
 |.callV _ fn es=>.n (.v fn) (trA es)
 |.blt b es=>.n (.b (.blt b.nm)) (trA es)
 |.lenG x p xs=>.n (.b (.blt "len")) (.b (.tup x p xs))
 |.lrev e=>.n (.b (.blt "list")) (.n (.b (.blt "reversed")) (V7 e))
 |.mt _ o e=>.n (V7 o) (V7 e)
 |.indexG x p xs e=>.n (.b (.tup x p (xs.map V.str))) (V7 e)
 |.pop o=>V7 o
 |.join o e=>.n (V7 o) (V7 e)
 |.isdig o=>V7 o
 |.starts o e=>.n (V7 o) (V7 e)
 |.kget x p kvs e f=>.n (.b (.dict x p kvs)) (.n (V7 e) (V7 f))
 |.fst es=>trF es
 |.lc _ _ it t e=>.n (trI it) (.n (trW t) (V7 e))
 |.v _=>.z
 |.int _=>.z
 |.bl _=>.z
 |.non=>.z
 |.str _=>.z
noncomputable def trA:DA->Tr
 |.z=>.z
 |.c e es=>.n (V7 e) (trA es)
noncomputable def trO:DO->Tr
 |.no=>.z
 |.yes e=>V7 e
noncomputable def trF:DF->Tr
 |.z=>.z
 |.str _ r=>trF r
 |.val e r=>.n (V7 e) (trF r)
noncomputable def trT:DT->Tr
 |.e e=>V7 e
 |.not t=>trT t
 |.bool _ ts=>C1z ts
noncomputable def C1z:DTs->Tr
 |.one t=>trT t
 |.c t ts=>.n (trT t) (C1z ts)
noncomputable def trW:DW->Tr
 |.z=>.z
 |.one t=>trT t
noncomputable def trI:DI->Tr
 |.list e=>V7 e
 |.tup e=>V7 e
 |.tupG x p xs=>.b (.tup x p xs)
 |.str e=>V7 e
 |.range e=>.n (.b (.blt "range")) (V7 e)
 |.enums e=>.n (.b (.blt "enumerate")) (V7 e)
end
mutual
def trS:DS->Tr
 |.expr e=>V7 e
 |.r e=>V7 e
 |.retN=>.z
 |.i t a b=>.n (trT t) (.n (A7z a) (A7z b))
 |.whl t b=>.n (trT t) (A7z b)
 |.fr _ it b=>.n (trI it) (A7z b)
 |.set _ e=>V7 e
 |.setF C o f e=>.n (.b (.fld C f)) (.n (V7 o) (V7 e))
 |.setI o i e=>.n (V7 o) (.n (V7 i) (V7 e))
 |.setLc _ _ _ it t e=>.n (trI it) (.n (trW t) (V7 e))
def A7z:DB->Tr
 |.z=>.z
 |.c s b=>.n (trS s) (A7z b)
end
abbrev okE(W:Wd)(d:DE):Prop:=(V7 d).ok W
abbrev okA(W:Wd)(d:DA):Prop:=(trA d).ok W
abbrev okO(W:Wd)(d:DO):Prop:=(trO d).ok W
abbrev okF(W:Wd)(d:DF):Prop:=(trF d).ok W
abbrev okT(W:Wd)(d:DT):Prop:=(trT d).ok W
abbrev C7z(W:Wd)(d:DTs):Prop:=(C1z d).ok W
abbrev okW(W:Wd)(d:DW):Prop:=(trW d).ok W
abbrev okI(W:Wd)(d:DI):Prop:=(trI d).ok W
abbrev okS(W:Wd)(d:DS):Prop:=(trS d).ok W
abbrev C2B(W:Wd)(d:DB):Prop:=(A7z d).ok W
noncomputable def ckG(N:List Str)(sc:Scope):DG->Expr->Bool
 |.name i,e=>ckN N sc i e
 |.two i j,e=>A9v e λes _ _=>x2 es λa b=>O9 a&&O9 b&&ckN N sc i a&&ckN N sc j b
mutual
noncomputable def ckS(N:List Str)(sc:Scope):DS->Stmt->Bool
 |.expr d,s=>C0N s λe _=>A94 e&&V0 N sc d e
 |.r d,s=>A9u s λe _=>xS e λe=>V0 N sc d e
 |.retN,s=>A9u s λe _=>xN e true
 |.i t a b,s=>yIf s λc l r _=>ckT N sc t c&&A72 N sc a l&&A72 N sc b r
 |.whl t b,s=>B58 s λc l r _=>xZ r (ckT N sc t c&&A72 N sc b l)
 |.fr g it b,s=>C3O s λtg e l r _=>xZ r (A3x e&&ckG N sc g tg&&ckI N sc it tg e&&A72 N sc b l)
 |.set i d,s=>A3m s λts e _=>x1 ts λt=>W9 t λx _=>A94 e&&(decide (N[i]?=some x)&&B4m sc x)&&V0 N sc d e
 |.setF _ o f d,s=>A3m s λts e _=>x1 ts λt=>L8 t λa g _=>decide (f=g)&&V0 N sc o a&&V0 N sc d e
 |.setI o i d,s=>A3m s λts e _=>x1 ts λt=>V4 t λa b _=>A94 e&&A3w b&&V0 N sc o a&&V0 N sc i b&&V0 N sc d e
 |.setLc i own g it t d,s=>A3m s λts e _=>x1 ts λtt=>W9 tt λy py=>A32 e λe gs scope pos=>x1 gs λc=>decide (N[i]?=some y)&&decide (sc.names.lookup y=some .local)&&(py.line==pos.line)&&
   !(scope.names.any λ(n,k)=>n==y&&(k== .local||k== .cell))&&decide (c.is_async=0)&&A3x c.iter&&B8z N sc scope own&&ckI N sc it c.target c.iter&&ckL N (A7M scope sc) g c.target&&ckW N (A7M scope sc) t c.ifs&&V0 N (A7M scope sc) d e
noncomputable def A72(N:List Str)(sc:Scope):DB->List Stmt->Bool
 |.z,[]=>true
 |.c s b,st::sts=>ckS N sc s st&&A72 N sc b sts
 |_,_=>false
end
def B1E{sc:Scope}{x:Str}(h:B4l sc x=true):Vis sc x:=by unfold B4l at h;unfold Vis;split at h<;>simp_all
def B1F{sc:Scope}{x:Str}(h:B4m sc x=true):Loc sc x:=by unfold B4m at h;unfold Loc;split at h<;>simp_all
def P9{X:Cx}{sc:Scope}{x:Str}(e:X.env.scope=sc)(h:A1h sc x=true):Gl X x:=by
 unfold A1h at h;unfold Gl Env.kindOf;rw[e];split at h
 ·assumption
 ·cases h
def U9{x:Str}(h:A4O x=true):(x==("__debug__":Str))=false/\(x==("__classdict__":Str))=false:=by unfold A4O at h;dsimp[Ga,Jo]at h;exact h
def N7{e:Expr}{f:Str}{env:Env}{w:Sem Nj}(h:X8 e=true):attributeBase e f env w=w:=by
 cases e with
 |Call fn args kws pos=>
  cases fn with
  |Name x p=>
   cases args with
   |nil=>
    cases kws with
    |nil=>exact nf h
    |cons k ks=>rfl
   |cons a as=>rfl
  |_=>rfl
 |_=>rfl
def A4k{e:Expr}{t:Option Expr}{l:Nat}{env:Env}(h:A94 e=true):swapsWith e t l env=pure false:=by unfold swapsWith;cases e<;>first|rfl|exact nf h
def C0D{e a:Expr}{f:Str}{p:Pos}{l:Nat}{env:Env}:swapsWith e (some (.Attribute a f p)) l env=pure false:=by unfold swapsWith;cases e<;>rfl
def R6{e:Expr}{es:List Expr}{env:Env}(h:O9 e=true):starEach (e::es) env=(false,eval e env)::starEach es env:=by cases e<;>first|rfl|exact nf h
def A21{e:Expr}(h:A3w e=true):B4O e:=by intro o i;cases e<;>first|rfl|exact nf h
def S8{e:Expr}{op:CmpOp}(h:A3x e=true):behindInMarks op e=false:=by cases e<;>first|rfl|exact nf h
def A6k{e:Expr}{env:Env}(h:A3x e=true): ∀x,foldedSetIterable e env x=pure x:=by intro x;cases e<;>first|rfl|exact nf h
def B46{e:Expr}{env:Env}(h:B7c e=true): ∀whole,isTrue e env whole=(do let v <-whole;standAt e.pos;holding [v] (truthy v)):=by
 intro whole
 cases e with
 |UnaryOp op _ _=>cases op<;>first|rfl|exact nf h
 |_=>first|rfl|exact nf h
theorem A1C{env:Env}{pos:Pos}: ∀{es:List Expr},(es.all O9)=true->(backTo pos (starEach es env)).any (·.1)=false
 |[],_=>rfl
 |e::es,h=>by dsimp[Ih,Ga]at h;rw[R6 h.1];show(false||(backTo pos (starEach es env)).any (·.1))=false;rw[A1C h.2];rfl
theorem A0U{N:List Str}{sc:Scope}: ∀{ds:DA}{es:List Expr},ckA N sc ds es=true->es.all O9=true
 |.z,[],_=>rfl
 |.z,_::_,h=>by cases h
 |.c _ _,[],h=>by cases h
 |.c d ds,e::es,h=>by change (_&&_)=true at h;dsimp[Ga]at h;rw[Ih,h.1.1,A0U h.2];rfl
def A0M{e:Expr}{env:Env}(h:O9 e=true):starEach [e] env=[(false,eval e env)]:=R6 h
structure Sc(X:Cx)(N:List Str)(sc:Scope):Prop where
 hN:X.N=N
 nd:N.Nodup
 hs:X.env.scope=sc
 kd:sc.kind=.function
 calm:X.calm=true
 hu:X.A.units+1<cLine
def Sc.blk{X:Cx}{N:List Str}{sc scope:Scope}{own:List (Str×Nat)}(S:Sc X N sc)(h:B8z N sc scope own=true)(s:Ni)(H:Hp)(C:Nh)(cl:List (Str×Nh))(fp:List Nh):
  Sc (X.blk s H scope (compEnvC scope cl C X.env) fp) N (A7M scope sc):=
 ⟨S.hN,S.nd,by show relabel scope X.env=A7M scope sc;unfold relabel A7M Env.kindOf;rw[S.hs],(A69 h).kind,S.calm,S.hu⟩
def B3r{X:Cx}{N:List Str}{sc:Scope}(S:Sc X N sc)(hf: ∀x,X.fn x=true){i:Nat}{e:Expr}(h:ckN N sc i e=true):PG X e (Y4 i):=by
 delta M5 e x pos
 change (_&&_)=true at h;dsimp[Ga,Gb]at h;exact B33 (by rw[S.hN];exact S.nd) (by rw[S.hN];exact h.1) (by rw[S.hs];exact B1F h.2) (.inl (hf x))
def B8r{X:Cx}{N:List Str}{sc:Scope}(S:Sc X N sc){i:Nat}{e:Expr}(h:ckL N sc i e=true):PG X e (Y4 i):=by
 delta M5 e x pos
 change (_&&_)=true at h;dsimp[Ga,Gb]at h;exact B33 (by rw[S.hN];exact S.nd) (by rw[S.hN];exact h.1) (by rw[S.hs];exact .inl h.2) (.inr (by rw[S.hs];exact h.2))
section
variable{X:Cx}
def PE.weak{e:Expr}{t t':TE}(h:PE X e t)(w: ∀S H Q,t' S H Q->t S H Q):PE X e t':=λpins s S H Q I q=>h pins s S H Q I (w S H Q q)
def PS.weak{st:Stmt}{t t':TS}(h:PS X st t)(w: ∀D S H,t' D S H->t D S H):PS X st t':=λpins s S H D I q=>h pins s S H D I (w D S H q)
def PI.weak{tg e:Expr}{t t':TI}(h:PI X tg e t)(w: ∀S H R,t' S H R->t S H R):PI X tg e t':=λpins s S H R I q=>h pins s S H R I (w S H R q)
def up(t:TE):TE:=fun S H Q=>∃Q1:VK,t S H Q1/\∀v H1,Q1 v H1->Q v H1
theorem PE.up{e:Expr}{t:TE}(h:PE X e t):PE X e (up t):=λpins s S H Q I q=>by obtain⟨Q1,q,w⟩:=q;exact J9 (h pins s S H Q1 I q) λu s1 ⟨v,H1,I1,r,q1⟩=>⟨v,H1,I1,r,w v H1 q1⟩
def OpR.weak{f:Nj->Nj->Sem Nj}{r r':R2}(h:OpR X f r)(w: ∀x y H Q,r' x y H Q->r x y H Q):OpR X f r':=λpins s S H x y v u Q I rx ry q=>h pins s S H x y v u Q I rx ry (w x y H Q q)
def IxR.weak{r r':R2}(h:IxR X r)(w: ∀x y H Q,r' x y H Q->r x y H Q):IxR X r':=λvalue slice pins s S H x y v u Q I rx ry q=>h value slice pins s S H x y v u Q I rx ry (w x y H Q q)
def SlR.weak{r r':V->Option Int->Option Int->Hp->VK->Prop}(h:SlR X r)(w: ∀x l u H Q,r' x l u H Q->r x l u H Q):SlR X r':=λpins s S H x v vl vu lo hi sl Q I rx hs pl pu q=>h pins s S H x v vl vu lo hi sl Q I rx hs pl pu (w x lo hi H Q q)
def Y1.weak{f:Nj}{r r':List V->Hp->VK->Prop}(h:Y1 X f r)(w: ∀xs H Q,r' xs H Q->r xs H Q):Y1 X f r':=λpins s S H xs us Q I rx q=>h pins s S H xs us Q I rx (w xs H Q q)
def sqL{K:Fg}{H:Hp}{p:Nh}{xs:List V}(h:H p=some (.lst xs)):SqL K H p xs:=.inl (.inl h)
def sqT{K:Fg}{H:Hp}{p:Nh}{xs:List V}(h:H p=some (.tup xs)):SqT K H p xs:=.inl (.inl h)
def exI{x:V}{k:Int->Prop}(h:S0 x k): ∃i,x=.int i/\k i:=by cases x<;>first|exact⟨_,rfl,h⟩|exact h.elim
def exS{x:V}{k:Str->Prop}(h:asS x k): ∃i,x=.str i/\k i:=by cases x<;>first|exact⟨_,rfl,h⟩|exact h.elim
def exB{x:V}{k:Bool->Prop}(h:asB x k): ∃i,x=.bl i/\k i:=by cases x<;>first|exact⟨_,rfl,h⟩|exact h.elim
def exX{S:Type}{o:Option S}{k:S->Prop}(h:A1q o k): ∃v,o=some v/\k v:=by cases o<;>first|exact⟨_,rfl,h⟩|exact h.elim
def ex1{xs:List V}{k:V->Prop}(h:as1 xs k): ∃x,xs=[x]/\k x:=by rcases xs with _|⟨a,_|⟨b,t⟩⟩<;>first|exact⟨_,rfl,h⟩|exact h.elim
def ex2{xs:List V}{k:V->V->Prop}(h:as2 xs k): ∃x y,xs=[x,y]/\k x y:=by rcases xs with _|⟨a,_|⟨b,_|⟨c,t⟩⟩⟩<;>first|exact⟨_,_,rfl,h⟩|exact h.elim
def B3F{x:V}{k:Int->Prop}:S0 x k=∃i,x=.int i/\k i:=Jg ⟨exI,λ⟨_,e,h⟩=>e▸h⟩
def B8I{x:V}{k:Str->Prop}:asS x k=∃i,x=.str i/\k i:=Jg ⟨exS,λ⟨_,e,h⟩=>e▸h⟩
def A7t{x:V}{k:Bool->Prop}:asB x k=∃i,x=.bl i/\k i:=Jg ⟨exB,λ⟨_,e,h⟩=>e▸h⟩
def C3V(i:Nat):tV i=B88 i:=by
 funext S H Q;unfold tV B88
 match S[i]? with
 |none=>simp
 |some none=>simp
 |some (some v)=>simp
def C35(t:TE):tN' t=B6z t:=by unfold tN' B6z;dsimp[A7t]
def C4g(t u:TE):tA' t u=B6D t u:=by unfold tA' B6D;dsimp[A7t]
def C33(t u:TE):tO' t u=C1B t u:=by unfold tO' C1B;dsimp[A7t]
def C3Y(t:TE):tT' t=B0Y t:=by unfold tT' B0Y;dsimp[A7t]
def C32(t:TE):tP' t=B6y t:=by unfold tP' B6y;dsimp[B3F]
def C04(g:Int->V):rU' g=rU g:=by unfold rU' rU;dsimp[B3F]
def C0X(r r':R2)(a b c:TE):tC' r r' a b c=A9G r r' a b c:=by unfold tC' A9G;dsimp[A7t]
def BO.ok: ∀o:BO,OpR X (binaryOp o.op) o.r
 |.add=>C2z.weak λ_ _ _ _ h=>let ⟨i,h1,h⟩:=exI h;let ⟨j,h2,h3⟩:=exI h;⟨i,j,h1,h2,h3⟩
 |.sub=>C2u.weak λ_ _ _ _ h=>let ⟨i,h1,h⟩:=exI h;let ⟨j,h2,h3⟩:=exI h;⟨i,j,h1,h2,h3⟩
 |.mul=>B92.weak λ_ _ _ _ h=>let ⟨i,h1,h⟩:=exI h;let ⟨j,h2,h3,h4⟩:=exI h;⟨i,j,h1,h2,h3.h,h4⟩
 |.and=>C2y.weak λ_ _ _ _ h=>let ⟨i,h1,h⟩:=exI h;let ⟨j,h2,h3⟩:=exI h;⟨i,j,h1,h2,h3⟩
 |.or=>C4F.weak λ_ _ _ _ h=>let ⟨i,h1,h⟩:=exI h;let ⟨j,h2,h3⟩:=exI h;⟨i,j,h1,h2,h3⟩
 |.shl=>C2v.weak λ_ _ _ _ h=>let ⟨i,h1,h⟩:=exI h;let ⟨j,h2,h3⟩:=exI h;⟨i,j,h1,h2,h3⟩
 |.cat=>C2x.weak λ_ _ _ _ ⟨a,xs,h1,h2,b,zs,h3,h4,h5⟩=>⟨a,b,xs,zs,h1,h3,h2,h4,h5⟩
def BO.is_ok{o:BO}{p:Operator}(h:o.is p=true):p=o.op:=of_decide_eq_true h
def CO.ok: ∀o:CO,OpR X (compareOp o.op) o.r
 |.eq=>C4L
 |.ne=>C4G
 |.lt=>C4H.weak λ_ _ _ _ h=>let ⟨i,h1,h⟩:=exI h;let ⟨j,h2,h3⟩:=exI h;⟨i,j,h1,h2,h3⟩
 |.le=>C4I.weak λ_ _ _ _ h=>let ⟨i,h1,h⟩:=exI h;let ⟨j,h2,h3⟩:=exI h;⟨i,j,h1,h2,h3⟩
 |.gt=>C4J.weak λ_ _ _ _ h=>let ⟨i,h1,h⟩:=exI h;let ⟨j,h2,h3⟩:=exI h;⟨i,j,h1,h2,h3⟩
 |.ge=>C4K.weak λ_ _ _ _ h=>let ⟨i,h1,h⟩:=exI h;let ⟨j,h2,h3⟩:=exI h;⟨i,j,h1,h2,h3⟩
 |.isN=>C2w
 |.notN=>B91
def CO.is_ok{o:CO}{p:CmpOp}(h:o.is p=true):p=o.op:=of_decide_eq_true h
def IK.ok: ∀k:IK,IxR X (k.r X.K)
 |.list=>B4i.weak λ_ _ _ _ ⟨p,xs,h1,h3,h⟩=>let ⟨i,h2,h⟩:=exI h;let ⟨v,h4,h5⟩:=exX h;⟨p,xs,i,v,h1,h2,sqL h3,h4,h5⟩
 |.tup=>B7O.weak λ_ _ _ _ ⟨p,xs,h1,h3,h⟩=>let ⟨i,h2,h⟩:=exI h;let ⟨v,h4,h5⟩:=exX h;⟨p,xs,i,v,h1,h2,sqT h3,h4,h5⟩
 |.str=>C2V.weak λ_ _ _ _ h=>let ⟨z,h1,h⟩:=exS h;let ⟨i,h2,h3,h⟩:=exI h;let ⟨c,h4,h5⟩:=exX h;⟨z,i,c,h1,h2,h3,h4,h5⟩
 |.frz=>B4i.weak λ_ _ _ _ ⟨p,xs,h1,h3,h⟩=>let ⟨i,h2,h⟩:=exI h;let ⟨v,h4,h5⟩:=exX h;⟨p,xs,i,v,h1,h2,h3,h4,h5⟩
def SK.ok: ∀k:SK,SlR X (k.r X.K)
 |.list=>B3X.weak λ_ _ _ _ _ ⟨a,xs,h1,h2,h3⟩=>⟨a,xs,h1,sqL h2,h3⟩
 |.str=>C1X.weak λ_ _ _ _ _ h=>exS h
 |.frz=>B3X.weak λ_ _ _ _ _ ⟨a,xs,h1,h2,h3⟩=>⟨a,xs,h1,h2,h3⟩
def C3l:bootBuiltins "abs"=some (.builtin "abs"):=by decide+kernel
def C3h:bootBuiltins "max"=some (.builtin "max"):=by decide+kernel
def C3g:bootBuiltins "ord"=some (.builtin "ord"):=by decide+kernel
def C3k:bootBuiltins "all"=some (.builtin "all"):=by decide+kernel
def C3j:bootBuiltins "any"=some (.builtin "any"):=by decide+kernel
def C3f:bootBuiltins "str"=some (.type "str"):=by decide+kernel
def C3i:bootBuiltins "int"=some (.type "int"):=by decide+kernel
def B8A:bootBuiltins "tuple"=some (.type "tuple"):=by decide+kernel
def C0C:bootBuiltins "dict"=some (.type "dict"):=by decide+kernel
def C0B{b:Bt}(hc:X.calm=true)(hm:X.mg b.nm=none){p pos:Pos}{e:Expr}{es:List Expr}{t:TA}(hg:Gl X b.nm)(ha:PA X (e::es) t)(he:starEach (e::es) X.env=(false,eval e X.env)::starEach es X.env)(hpl:(backTo pos (starEach es X.env)).any (·.1)=false):PE X (.Call (.Name b.nm p) (e::es) [] pos) (tCB (b.r X.K) t):=by
 cases b with
 |lenL=>exact S7 (Z4.weak λ_ _ _ h=>let ⟨x,h1,p,ys,h2,h3,h4⟩:=ex1 h;⟨p,ys,by rw[h1,h2],.inl (sqL h3),h4⟩) hg hm PySem.boot_len ha (he:=he) (hpl:=hpl)
 |lenT=>exact S7 (Z4.weak λ_ _ _ h=>let ⟨x,h1,p,ys,h2,h3,h4⟩:=ex1 h;⟨p,ys,by rw[h1,h2],.inr (sqT h3),h4⟩) hg hm PySem.boot_len ha (he:=he) (hpl:=hpl)
 |lenS=>exact S7 (B0p.weak λ_ _ _ h=>let ⟨x,h1,h⟩:=ex1 h;let ⟨z,h2,h3,h4⟩:=exS h;⟨z,by rw[h1,h2],h3,h4⟩) hg hm PySem.boot_len ha (he:=he) (hpl:=hpl)
 |lenF=>exact S7 (Z4.weak λ_ _ _ h=>let ⟨x,h1,p,ys,h2,h3,h4⟩:=ex1 h;⟨p,ys,by rw[h1,h2],.inl h3,h4⟩) hg hm PySem.boot_len ha (he:=he) (hpl:=hpl)
 |abs=>exact S7 (B8v.weak λ_ _ _ h=>let ⟨x,h1,h⟩:=ex1 h;let ⟨z,h2,h3⟩:=exI h;⟨z,by rw[h1,h2],h3⟩) hg hm C3l ha (he:=he) (hpl:=hpl)
 |max=>exact S7 ((B5I hc).weak λ_ _ _ h=>let ⟨x,y,h1,h⟩:=ex2 h;let ⟨i,h2,h⟩:=exI h;let ⟨j,h3,h4⟩:=exI h;⟨i,j,by rw[h1,h2,h3],h4⟩) hg hm C3h ha (he:=he) (hpl:=hpl)
 |ord=>exact S7 (B8u.weak λ_ _ _ h=>let ⟨x,h1,h⟩:=ex1 h;let ⟨z,h2,h3,h4⟩:=exS h;⟨z,by rw[h1,h2],h3,h4⟩) hg hm C3g ha (he:=he) (hpl:=hpl)
 |all=>exact S7 ((C27 hc).weak λ_ _ _ h=>let ⟨x,h1,a,ys,h2,h3,bs,h4,h5⟩:=ex1 h;⟨a,bs,by rw[h1,h2],sqL (h4▸h3),h5⟩) hg hm C3k ha (he:=he) (hpl:=hpl)
 |any=>exact S7 ((C26 hc).weak λ_ _ _ h=>let ⟨x,h1,a,ys,h2,h3,bs,h4,h5⟩:=ex1 h;⟨a,bs,by rw[h1,h2],sqL (h4▸h3),h5⟩) hg hm C3j ha (he:=he) (hpl:=hpl)
 |str=>exact A0Q (B0n.weak λ_ _ _ h=>let ⟨x,h1,h⟩:=ex1 h;let ⟨z,h2,h3,h4⟩:=exI h;⟨z,by rw[h1,h2],h3,h4⟩) hg hm C3f ha (he:=he) (hpl:=hpl)
 |int=>exact A0Q (B0q.weak λ_ _ _ h=>let ⟨x,h1,h⟩:=ex1 h;let ⟨z,h2,h⟩:=exS h;let ⟨n,h3,h4,h5⟩:=exX h;⟨z,n,by rw[h1,h2],h3,h4,h5⟩) hg hm C3i ha (he:=he) (hpl:=hpl)
 |list=>exact A0Q (B0o.weak λ_ _ _ h=>let ⟨x,h1,p,ys,h2,h3,h4⟩:=ex1 h;⟨p,ys,by rw[h1,h2],.inl (sqL h3),h4⟩) hg hm B4I ha (he:=he) (hpl:=hpl)
 |tuple=>exact A0Q (A74.weak λ_ _ _ h=>let ⟨x,h1,p,ys,h2,h3,h4⟩:=ex1 h;⟨p,ys,by rw[h1,h2],.inl ⟨sqL h3,h4⟩⟩) hg hm B8A ha (he:=he) (hpl:=hpl)
 |dict=>exact A0Q (B3t hc) hg hm C0C ha (he:=he) (hpl:=hpl)
def C0b{m:Mt}{o e:Expr}{to te:TE}{p q:Pos}(ho:PE X o to)(he:PE X e te)(hb:attributeBase o m.nm X.env (eval o X.env)=eval o X.env)(hl:(p.endLine==q.line)=true)(hs:O9 e=true):
  PE X (.Call (.Attribute o m.nm p) [e] [] q) (tMt m.r to te):=by
 have h1:=A0M (env:=X.env) hs
 have hf:((backTo q (starEach [e] X.env)).all (λx=>!x.1)&&(backToKw q (keywordEach [] X.env)).all (λx=>x.1.isSome)
   &&decide (([e]:List Expr).length+([]:List Keyword).length+(if([]:List Keyword).isEmpty then 0 else 1)<30))=true:=by rw[h1];rfl
 cases m with
 |append=>refine(B36 PySem.F.plainAttrs_list PySem.F.slot_list_append PySem.F.type_list_append B5f ho.up (Y7 he.up A07 h1) hb hf hl h1 rfl).weak fun S H Q h=>⟨_,h,?_⟩;rintro x H1 ⟨⟨p0,xs0,rfl,hx,_⟩,q⟩;refine⟨.inl ⟨rfl,_,sqL hx⟩,⟨_,q,?_⟩⟩;rintro y H2 ⟨l,xs,h1,h2⟩;exact⟨l,xs,y,h1,rfl,h2⟩
 |extL=>refine(B36 PySem.F.plainAttrs_list PySem.F.slot_list_extend PySem.F.type_list_extend A6o ho.up (Y7 he.up A07 h1) hb hf hl h1 rfl).weak fun S H Q h=>⟨_,h,?_⟩;rintro x H1 ⟨⟨p0,xs0,rfl,hx,_⟩,q⟩;refine⟨.inl ⟨rfl,_,sqL hx⟩,⟨_,q,?_⟩⟩;rintro y H2 ⟨l,xs,h1,h3,b,zs,h2,h4,h5⟩;exact⟨l,b,xs,zs,h1,by rw[h2],h3,.inl (sqL h4),h5⟩
 |extT=>refine(B36 PySem.F.plainAttrs_list PySem.F.slot_list_extend PySem.F.type_list_extend A6o ho.up (Y7 he.up A07 h1) hb hf hl h1 rfl).weak fun S H Q h=>⟨_,h,?_⟩;rintro x H1 ⟨⟨p0,xs0,rfl,hx,_⟩,q⟩;refine⟨.inl ⟨rfl,_,sqL hx⟩,⟨_,q,?_⟩⟩;rintro y H2 ⟨l,xs,h1,h3,b,zs,h2,h4,h5⟩;exact⟨l,b,xs,zs,h1,by rw[h2],h3,.inr (sqT h4),h5⟩
def Z3{sc:Scope}{x:Str}{v:V}{e:Expr}(hs:X.env.scope=sc)(h:B13 sc x e=true)(g:B2A X.wd x v):PE X e (tC v)/\X8 e=true/\A3x e=true/\O9 e=true:=by
 delta M5 e y pos
 change (_&&_)=true at h;dsimp[Ga,Gb]at h;obtain⟨⟨rfl,h1⟩,h2⟩:=h;obtain⟨u,h3,h4⟩:=g;exact⟨B34 (P9 hs h1) h3 h4 (U9 h2).1,rfl,rfl,rfl⟩
def B7q(i:Nat){x:Str}{p pos:Pos}{e:Expr}{es:List Expr}{t:TA}{fn:Nh->Sp->Prop}(hfn: ∀f sp,fn f sp->C0L X.wd f sp)(ha:PA X (e::es) t)(hN:X.N[i]?=some x)(hv:Vis X.env.scope x)
  (hd:(x==("__debug__":Str))=false) (hcd:(x==("__classdict__":Str))=false)
  (he:starEach (e::es) X.env=(false,eval e X.env)::starEach es X.env) (hpl:(backTo pos (starEach es X.env)).any (·.1)=false):
  PE X (.Call (.Name x p) (e::es) [] pos) (B6B i fn t):=by
 intro pins s S H Q I h;obtain⟨f,sp,hs,hf,h⟩:=h;obtain⟨hk,k,fd,ps,hF,hr,hb⟩:=hfn f sp hf;have q:=B21 (X:=X) (pos:=p) hN hv hd hcd pins s S H (λv H1=>v=.ref f/\H1=H) I ⟨_,hs,rfl,rfl⟩;refine wpAny_Call_Name_kw (J9 q λu s0 ⟨v,H0,I0,r0,e0,e1⟩=>?_);subst e0 e1;obtain rfl:u=Value.ref f:=r0;refine PySem.W.callWith_K (h₀:=X.base) I.ok.mod.kin hk (J9 (ha pos pins s0 S _ _ I0 h) λus s1 ⟨vs,H1,I1,r,q⟩=>⟨I1.kIn,?_⟩) he hpl;exact B6U hF hr hb .nil B37 I1 r (by rw[Hw];exact q)
end
def PT.weak{X:Cx}{e:Expr}{t t':TT}(h:PT X e t)(w: ∀S H Q,t' S H Q->t S H Q):PT X e t':=λpins s S H Q I q=>h pins s S H Q I (w S H Q q)
mutual
theorem sE: ∀(d:DE){X:Cx}{N:List Str}{sc:Scope}{e:Expr},Sc X N sc->okE X.wd d->V0 N sc d e=true->PE X e (D2 X.K d):=by
 intro d X N sc e S ok h
 cases d with
 |v i=>
  delta M5 e x pos
  change (_&&_)=true at h;dsimp[Ga,Gb]at h;show PE _ _ (tV _);rw[C3V];exact B21 (by rw[S.hN];exact h.1.1) (by rw[S.hs];exact B1E h.1.2) (U9 h.2).1 (U9 h.2).2
 |int z=>
  delta X0 e c k pos
  obtain rfl:=of_decide_eq_true h;exact C2n
 |bl b=>
  delta X0 e c k pos
  obtain rfl:=of_decide_eq_true h;exact C4A
 |non=>
  delta X0 e c k pos
  obtain rfl:=of_decide_eq_true h;exact C2l
 |str x=>
  delta X0 e c k pos
  obtain rfl:=of_decide_eq_true h;exact B7h
 |glo x v=>
  delta M5 e y pos
  change (_&&_)=true at h;dsimp[Ga,Gb]at h;obtain⟨⟨rfl,h1⟩,h2⟩:=h;obtain⟨u,h3,h4⟩:=ok;exact B34 (P9 S.hs h1) h3 h4 (U9 h2).1
 |g C d f=>
  delta G7 e e g pos
  change (_&&_)=true at h;dsimp[Ga,Gb]at h;obtain⟨⟨rfl,h1⟩,h2⟩:=h;refine(C2o (sE d S ok.2 h2).up (N7 h1)).weak fun J H Q q=>⟨_,q,?_⟩;rintro x H1 ⟨a,dx,fs,h3,h4,v,h5⟩;exact⟨a,C,dx,fs,v,h3,h4,ok.1.1,ok.1.2,h5⟩
 |bin o a b=>
  delta B6d e l p r pos
  change (_&&_)=true at h;dsimp[Ga]at h;obtain⟨⟨h0,h1⟩,h2⟩:=h;obtain rfl:=BO.is_ok h0;exact C4x (BO.ok o) (sE a S ok.1 h1) (sE b S ok.2 h2)
 |neg a=>
  delta A03 e op e pos
  replace h:=dA h;obtain⟨rfl,h⟩:=h
  show PE _ _ (tUn (rU' _) _);rw[C04];exact C07 C1x (sE a S ok h)
 |inv a=>
  delta A03 e op e pos
  replace h:=dA h;obtain⟨rfl,h⟩:=h
  show PE _ _ (tUn (rU' _) _);rw[C04];exact C07 C1y (sE a S ok h)
 |not a=>
  delta A03 e op e pos
  replace h:=dA h;obtain⟨rfl,h⟩:=h
  show PE _ _ (tN' _);rw[C35];exact C2k (sE a S ok h)
 |m o a b=>
  delta L7 e l ps rs pos
  delta S6 ps p
  delta S6 rs r
  change (_&&_)=true at h;dsimp[Ga]at h;obtain⟨⟨⟨h0,h1⟩,h2⟩,h3⟩:=h;obtain rfl:=CO.is_ok h0;exact B35 (CO.ok o) (sE a S ok.1 h2) (sE b S ok.2 h3) (S8 h1)
 |inG x p xs a=>
  delta L7 e l ps rs pos
  delta S6 ps q
  delta S6 rs r
  replace h:=dA h;obtain⟨rfl,h⟩:=h
  change (_&&_)=true at h;dsimp[Ga]at h;obtain⟨hg,_,hn,_⟩:=Z3 S.hs h.1 ok.1.1;refine(B35 A8w (sE a S ok.2 h.2).up hg (S8 hn)).weak fun J H Q q=>⟨_,q,?_⟩;rintro y H1 ⟨h3,h4,h5⟩;exact⟨p,xs,rfl,.inr (ok.1.2.sq H1),h3,h4,h5⟩
 |inK x p xs a=>
  delta L7 e l ps rs pos
  delta S6 ps q
  delta S6 rs r
  replace h:=dA h;obtain⟨rfl,h⟩:=h
  change (_&&_)=true at h;dsimp[Ga]at h;obtain⟨hg,_,hn,_⟩:=Z3 S.hs h.1 ok.1.1;refine(B7o (B7t (sE a S ok.2 h.2).up hg) (S8 hn)).weak fun J H Q q=>⟨_,q,?_⟩;intro y H1 h;obtain⟨k,h3,h4⟩:=exS h;exact⟨p,xs,.inr k,rfl,ok.1.2,h3,h4⟩
 |inD a b=>
  delta L7 e l ps rs pos
  delta S6 ps p
  delta S6 rs r
  replace h:=dA h;obtain⟨rfl,h⟩:=h
  change (_&&_)=true at h;dsimp[Ga]at h;exact B7o (B7u S.hu (sE a S ok.1 h.1.2) (sE b S ok.2 h.2)) (S8 h.1.1)
 |chain o p a b c=>
  delta L7 e l ps rs pos
  delta B4R ps q q'
  delta B4R rs m r
  change (_&&_)=true at h;dsimp[Ga]at h;obtain⟨⟨⟨⟨⟨h0,h1⟩,h2⟩,h3⟩,h4⟩,h5⟩:=h;obtain rfl:=CO.is_ok h0;obtain rfl:=CO.is_ok h1;show PE _ _ (tC' _ _ _ _ _);rw[C0X];exact B7p (CO.ok o) (CO.ok p) (sE a S ok.1 h3) (sE b S ok.2.1 h4) (sE c S ok.2.2 h5) (S8 h2)
 |bool k es=>
  delta A8g e op vs pos
  change (_&&_)=true at h;dsimp[Ga]at h
  cases op with
  |And=>have hk:k=true:=h.1;subst hk;exact(sB es S ok h.2).1
  |Or=>
   have hk:k=false:=by simpa using h.1
   subst hk;exact(sB es S ok h.2).2
 |ife t a b=>
  delta B6b e c l r pos
  change (_&&_)=true at h;dsimp[Ga]at h;exact B7n (sT t S ok.1 h.1.1) (sE a S ok.2.1 h.1.2) (sE b S ok.2.2 h.2)
 |lst es=>
  delta B85 e vs pos
  exact C2m (sA es S ok h)
 |tup es=>
  delta A5U e vs k pos
  exact C2j (sA es S ok h)
 |ix k a b=>
  delta U4 e l r pos
  change (_&&_)=true at h;dsimp[Ga]at h;exact C09 (IK.ok k) (sE a S ok.1 h.1.2) (sE b S ok.2 h.2) (A21 h.1.1)
 |ixG x p xs b=>
  delta U4 e l r pos
  change (_&&_)=true at h;dsimp[Ga]at h;obtain⟨hg,_,_,_⟩:=Z3 S.hs h.1.1 ok.1.1;refine(C09 B7O hg (sE b S ok.2 h.2).up (A21 h.1.2)).weak fun J H Q q=>⟨_,q,?_⟩;intro y H1 h;obtain⟨i,h3,h⟩:=exI h;obtain⟨v,h4,h5⟩:=exX h;exact⟨p,xs,i,v,rfl,h3,ok.1.2.sq H1,h4,h5⟩
 |ixD a b=>
  delta U4 e l r pos
  change (_&&_)=true at h;dsimp[Ga]at h;exact B9S S.hu (sE a S ok.1 h.1.2) (sE b S ok.2 h.2) (A21 h.1.1)
 |sl k a lo hi=>
  delta U4 e l r pos
  delta B59 r m n st p2
  delta C1r st
  change (_&&_)=true at h;dsimp[Ga]at h;exact B7i (SK.ok k) (sE a S ok.1 h.1.1) (sO lo S ok.2.1 h.1.2) (sO hi S ok.2.2 h.2)
 |f f sp es=>
  delta M6 e fn args kws pos
  delta M5 fn x p
  delta A9x args v vs
  delta A0r kws
  change (_&&_)=true at h;dsimp[Ga,Gb]at h;obtain⟨⟨⟨rfl,h1⟩,h2⟩,h3⟩:=h;obtain⟨⟨k,ps,hc,hr⟩,ok⟩:=ok;have hst:=A0U h3;dsimp[Ih,Ga]at hst;exact B7r hc hr (P9 S.hs h1) (sA es S ok h3) (U9 h2).1 (R6 hst.1) (A1C hst.2)
 |make f C sp es=>
  delta M6 e fn args kws pos
  delta M5 fn x p
  delta A0r kws
  change (_&&_)=true at h;dsimp[Ga,Gb]at h;obtain⟨⟨⟨rfl,h1⟩,h2⟩,h3⟩:=h;obtain⟨⟨k,ps,hc,hr⟩,ok⟩:=ok
  cases args with
  |cons v vs=>have hst:=A0U h3;dsimp[Ih,Ga]at hst;exact B7k hc hr (P9 S.hs h1) (sA es S ok h3) (U9 h2).1 (R6 hst.1) (A1C hst.2)
  |nil=>
   cases es with
   |z=>exact B48 hc hr (P9 S.hs h1) (U9 h2).1
   |c _ _=>cases h3
 |callV i fn es=>
  delta M6 e fn args kws pos
  delta M5 fn x p
  delta A9x args v vs
  delta A0r kws
  change (_&&_)=true at h;dsimp[Ga,Gb]at h;obtain⟨⟨⟨h0,h1⟩,h2⟩,h3⟩:=h;have hst:=A0U h3;dsimp[Ih,Ga]at hst;exact B7q i ok.1 (sA es S ok.2 h3) (by rw[S.hN];exact h0) (by rw[S.hs];exact B1E h1) (U9 h2).1 (U9 h2).2 (R6 hst.1) (A1C hst.2)
 |blt b es=>
  delta M6 e fn args kws pos
  delta M5 fn x p
  delta A9x args v vs
  delta A0r kws
  change (_&&_)=true at h;dsimp[Ga,Gb]at h;obtain⟨⟨rfl,h1⟩,h3⟩:=h;have hst:=A0U h3;dsimp[Ih,Ga]at hst;exact C0B S.calm ok.1 (P9 S.hs h1) (sA es S ok.2 h3) (R6 hst.1) (A1C hst.2)
 |lenG x p xs=>
  delta M6 e fn args kws pos
  delta M5 fn y pn
  delta S6 args e
  delta A0r kws
  change (_&&_)=true at h;dsimp[Ga,Gb]at h;obtain⟨⟨rfl,h1⟩,h2⟩:=h;obtain⟨hg,_,_,hn⟩:=Z3 S.hs h2 ok.2.1;refine(S7 Z4 (P9 S.hs h1) ok.1 PySem.boot_len (Y7 hg A07 (A0M hn)) (he:=A0M hn) (hpl:=rfl)).weak fun J H Q q=>?_;exact⟨p,xs,rfl,.inr (ok.2.2.sq H),q⟩
 |lrev d=>
  delta M6 e fn args kws pos
  delta M5 fn x p
  delta S6 args a
  delta A0r kws
  delta M6 a fn2 args2 kws2 pos2
  delta M5 fn2 y p2
  delta S6 args2 e
  delta A0r kws2
  change (_&&_)=true at h;dsimp[Ga,Gb]at h;obtain⟨⟨⟨⟨⟨rfl,rfl⟩,h1⟩,h2⟩,h3⟩,h4⟩:=h;refine(B22 (P9 S.hs h1) ok.1 (P9 S.hs h2) ok.2.1 S.calm (Y7 (sE d S ok.2.2 h4).up A07 (A0M h3)) (A0M h3) (A0M rfl)).weak fun J H Q q=>⟨_,q,?_⟩;rintro z H1 ⟨a,xs,h5,h6,h7⟩;exact⟨a,xs,by rw[h5],sqL h6,h7⟩
 |mt m o d=>
  delta M6 e fn args kws pos
  delta G7 fn a f p
  delta S6 args e
  delta A0r kws
  change (_&&_)=true at h;dsimp[Ga,Gb]at h;obtain⟨⟨⟨⟨⟨rfl,h1⟩,h2⟩,h3⟩,h4⟩,h5⟩:=h;exact C0b (sE o S ok.1 h4) (sE d S ok.2 h5) (N7 h1) h3 h2
 |indexG x p xs d=>
  delta M6 e fn args kws pos
  delta G7 fn a f pa
  delta S6 args e
  delta A0r kws
  change (_&&_)=true at h;dsimp[Ga,Gb]at h;obtain⟨⟨⟨⟨rfl,h1⟩,h2⟩,h3⟩,h4⟩:=h;obtain⟨hg,hns,_,_⟩:=Z3 S.hs h1 ok.1.1;have s1:=A0M (env:=X.env) h2
  have hf:((backTo pos (starEach [e] X.env)).all (λx=>!x.1)&&(backToKw pos (keywordEach [] X.env)).all (λx=>x.1.isSome)
   &&decide (([e]:List Expr).length+([]:List Keyword).length+(if([]:List Keyword).isEmpty then 0 else 1)<30))=true:=by rw[s1];rfl
  refine(B36 PySem.F.plainAttrs_tuple PySem.F.slot_tuple_index PySem.F.type_tuple_index B5e hg (Y7 (sE d S ok.2 h4).up A07 s1) (N7 hns) hf h3 s1 rfl).weak fun J H Q q=>⟨?_,⟨_,q,?_⟩⟩
  ·obtain⟨o,its,n,k1,k2,k3,_⟩:=ok.1.2;exact .inr (.inl ⟨rfl,o,k1,k2,k3⟩)
  ·intro y H1 h;obtain⟨z,k1,k2,k3⟩:=exS h;exact⟨p,xs,z,rfl,by rw[k1],ok.1.2.sq H1,k2,k3⟩
 |pop o=>
  delta M6 e fn args kws pos
  delta G7 fn a f p
  delta A0r args
  delta A0r kws
  change (_&&_)=true at h;dsimp[Ga,Gb]at h;obtain⟨⟨⟨rfl,h1⟩,h3⟩,h4⟩:=h;refine(C2p PySem.F.plainAttrs_list PySem.F.slot_list_pop PySem.F.type_list_pop C2D (sE o S ok h4).up (N7 h1) h3).weak fun J H Q q=>⟨_,q,?_⟩;rintro x H1 ⟨l,xs,rfl,k2,h⟩;obtain⟨y,k3,k4⟩:=exX h;exact⟨.inl ⟨rfl,_,sqL k2⟩,l,xs,y,rfl,rfl,k2,k3,k4⟩
 |join o d=>
  delta M6 e fn args kws pos
  delta G7 fn a f p
  delta S6 args e
  delta A0r kws
  change (_&&_)=true at h;dsimp[Ga,Gb]at h;obtain⟨⟨⟨⟨⟨rfl,h1⟩,h2⟩,h3⟩,h4⟩,h5⟩:=h;refine(B9Q (sE o S ok.1 h4).up (sE d S ok.2 h5).up (A0M h2) (N7 h1) h3).weak fun J H Q q=>⟨_,q,?_⟩;intro x H1 h;obtain⟨a,rfl,q⟩:=exS h;refine⟨⟨a,rfl⟩,⟨_,q,?_⟩⟩;rintro y H2 ⟨p,zs,k2,k3,ys,rfl,k4,k5⟩;exact⟨a,p,ys,rfl,by rw[k2],.inl (sqL k3),k4,k5⟩
 |isdig o=>
  delta M6 e fn args kws pos
  delta G7 fn a f p
  delta A0r args
  delta A0r kws
  change (_&&_)=true at h;dsimp[Ga,Gb]at h;obtain⟨⟨⟨rfl,h1⟩,h3⟩,h4⟩:=h;refine(C4y PySem.F.slot_str_isdigit PySem.F.type_str_isdigit B26 (sE o S ok h4).up (N7 h1) h3).weak fun J H Q q=>⟨_,q,?_⟩;intro x H1 h;obtain⟨a,rfl,q⟩:=exS h;exact⟨⟨a,rfl⟩,a,rfl,rfl,trivial,q⟩
 |starts o d=>
  delta M6 e fn args kws pos
  delta G7 fn a f p
  delta S6 args e
  delta A0r kws
  change (_&&_)=true at h;dsimp[Ga,Gb]at h;obtain⟨⟨⟨⟨⟨rfl,h1⟩,h2⟩,h3⟩,h4⟩,h5⟩:=h;refine(C08 PySem.F.slot_str_startswith PySem.F.type_str_startswith A7P (sE o S ok.1 h4).up (sE d S ok.2 h5).up (A0M h2) (N7 h1) h3).weak fun J H Q q=>⟨_,q,?_⟩;intro x H1 h;obtain⟨a,rfl,q⟩:=exS h;refine⟨⟨a,rfl⟩,⟨_,q,?_⟩⟩;intro y H2 h;obtain⟨b,rfl,q⟩:=exS h;exact⟨a,b,rfl,rfl,q⟩
 |kget x p kvs d c=>
  delta M6 e fn args kws pos
  delta G7 fn a f pa
  delta B4R args e b
  delta A0r kws
  change (_&&_)=true at h;dsimp[Ga,Gb]at h;obtain⟨⟨⟨⟨⟨⟨rfl,h1⟩,h2⟩,h3⟩,h4⟩,h6⟩,h7⟩:=h;have q:starEach [e,b] X.env=[(false,eval e X.env),(false,eval b X.env)]:=by rw[R6 h2,R6 h3];rfl
  obtain⟨hg,hns,_,_⟩:=Z3 S.hs h1 ok.1.1;refine(B7m hg (sE d S ok.2.1 h6).up (sE c S ok.2.2 h7).up ⟨N7 hns,by rw[q];rfl,h4,by rw[q];rfl⟩).weak fun J H Q q=>⟨p,kvs,rfl,ok.1.2,⟨_,q,?_⟩⟩;rintro y H1 q;refine⟨_,q,?_⟩;intro z H2 h;obtain⟨k,k1,k2⟩:=exS h;exact⟨.inr k,k1,k2⟩
 |fst es=>
  delta A9w e vs pos
  delta C6C vs v u vs
  exact B9R (sF es S ok h) rfl
 |lc own g it t d=>
  delta A4H e e gs scope pos
  delta S6 gs cc;obtain⟨tg,iter,ifs,k⟩:=cc
  change (_&&_)=true at h;dsimp[Ga,Gb]at h;obtain⟨⟨⟨⟨⟨⟨rfl,h0⟩,h1⟩,h2⟩,h3⟩,h4⟩,h5⟩:=h
  exact C4z S.calm (by rw[S.hN];exact S.nd) (sI it S ok.1 h2) (by rw[S.hN,S.hs];exact A69 h1) (λs H C cl fp=>B8r (S.blk h1 s H C cl fp) h3)
   (λs H C cl fp=>sW t (S.blk h1 s H C cl fp) ok.2.1 h4) (λs H C cl fp=>sE d (S.blk h1 s H C cl fp) ok.2.2 h5) (A6k h0)
theorem sB: ∀(ds:DA){X:Cx}{N:List Str}{sc:Scope}{es:List Expr}{pos:Pos},Sc X N sc->okA X.wd ds->ckB N sc ds es=true->PE X (.BoolOp .And es pos) (A3a X.K true ds)/\PE X (.BoolOp .Or es pos) (A3a X.K false ds):=by
 intro ds X N sc es pos S ok h
 cases ds with
 |z=>exact nf h
 |c d ds=>
  cases ds with
  |z=>
   match es with
   |[e]=>exact⟨B7j (sE d S ok.1 h),B7j (sE d S ok.1 h)⟩
   |[]=>exact nf h
   |_::_::_=>exact nf h
  |c c ds=>
   match es with
   |e::b::vs=>change (_&&_)=true at h;dsimp[Ga]at h;have q:=sB (.c c ds) (pos:=pos) S ok.2 h.2;show PE _ _ (tA' _ _)/\PE _ _ (tO' _ _);rw[C4g,C33];exact⟨C2q (sE d S ok.1 h.1) q.1,C4w (sE d S ok.1 h.1) q.2⟩
   |[]=>exact nf h
   |[_]=>exact nf h
theorem sA: ∀(ds:DA){X:Cx}{N:List Str}{sc:Scope}{es:List Expr},Sc X N sc->okA X.wd ds->ckA N sc ds es=true->PA X es (A1r X.K ds):=by
 intro ds X N sc es S ok h
 cases ds with
 |z=>
  cases es with
  |nil=>exact A07
  |cons _ _=>exact nf h
 |c d ds=>
  cases es with
  |nil=>exact nf h
  |cons e es=>change (_&&_)=true at h;dsimp[Ga]at h;exact Y7 (sE d S ok.1 h.1.2) (sA ds S ok.2 h.2) (R6 h.1.1)
theorem sO: ∀(d:DO){X:Cx}{N:List Str}{sc:Scope}{e:Option Expr},Sc X N sc->okO X.wd d->ckO N sc d e=true->PO X e (B3p X.K d):=by
 intro d X N sc e S ok h
 cases d with
 |no=>
  cases e with
  |none=>exact B9M
  |some _=>exact nf h
 |yes d=>
  cases e with
  |none=>exact nf h
  |some e=>show PO _ _ (tP' _);rw[C32];exact B9L (sE d S ok h)
theorem sF: ∀(d:DF){X:Cx}{N:List Str}{sc:Scope}{es:List Expr},Sc X N sc->okF X.wd d->ckF N sc d es=true->PJ X es (A70 X.K d):=by
 intro d X N sc es S ok h
 cases d with
 |z=>revert es;refine @A0r _ _ _ ?_;intro _;exact C2f
 |str x r=>
  delta A9x es e es
  delta X0 e c k pos
  replace h:=dA h;obtain⟨rfl,h⟩:=h
  exact C2e (sF r S ok h) rfl
 |val d r=>
  delta A9x es e es
  delta A3n e e k fs pos
  delta C1r fs
  change (_&&_)=true at h;dsimp[Ga,Gb]at h;obtain⟨⟨rfl,h1⟩,h2⟩:=h;exact C2d (sE d S ok.1 h1) (sF r S ok.2 h2) rfl
theorem sT: ∀(t:DT){X:Cx}{N:List Str}{sc:Scope}{e:Expr},Sc X N sc->okT X.wd t->ckT N sc t e=true->PT X e (A0s X.K t):=by
 intro t X N sc e S ok h
 cases t with
 |e d=>
  show PT _ _ (tT' _);rw[C3Y]
  cases d with
  |m o a b=>
   skip
   delta L7 e l ps rs pos
   delta S6 ps p
   delta S6 rs r
   change (_&&_)=true at h;dsimp[Ga]at h;obtain⟨⟨⟨h0,h1⟩,h2⟩,h3⟩:=h;obtain rfl:=CO.is_ok h0;exact B30 (CO.ok o) (sE a S ok.1 h2) (sE b S ok.2 h3) (S8 h1)
  |inG x p xs a=>
   skip
   delta L7 e l ps rs pos
   delta S6 ps q
   delta S6 rs r
   replace h:=dA h;obtain⟨rfl,h⟩:=h
   change (_&&_)=true at h;dsimp[Ga]at h;obtain⟨hg,_,hn,_⟩:=Z3 S.hs h.1 ok.1.1;refine PT.weak (B30 A8w (sE a S ok.2 h.2).up hg (S8 hn)) fun J H Q q=>⟨_,q,?_⟩;rintro y H1 ⟨h3,h4,h5⟩;exact⟨p,xs,rfl,.inr (ok.1.2.sq H1),h3,h4,h5⟩
  |inK x p xs a=>
   skip
   delta L7 e l ps rs pos
   delta S6 ps q
   delta S6 rs r
   replace h:=dA h;obtain⟨rfl,h⟩:=h
   change (_&&_)=true at h;dsimp[Ga]at h;obtain⟨hg,_,hn,_⟩:=Z3 S.hs h.1 ok.1.1;refine PT.weak (B61 (B7t (sE a S ok.2 h.2).up hg) (S8 hn)) fun J H Q q=>⟨_,q,?_⟩;intro y H1 h;obtain⟨k,h3,h4⟩:=exS h;exact⟨p,xs,.inr k,rfl,ok.1.2,h3,h4⟩
  |inD a b=>
   skip
   delta L7 e l ps rs pos
   delta S6 ps p
   delta S6 rs r
   replace h:=dA h;obtain⟨rfl,h⟩:=h
   change (_&&_)=true at h;dsimp[Ga]at h;exact B61 (B7u S.hu (sE a S ok.1 h.1.2) (sE b S ok.2 h.2)) (S8 h.1.1)
  |chain o p a b c=>
   skip
   delta L7 e l ps rs pos
   delta B4R ps q q'
   delta B4R rs m r
   change (_&&_)=true at h;dsimp[Ga]at h;obtain⟨⟨⟨⟨⟨h0,h1⟩,h2⟩,h3⟩,h4⟩,h5⟩:=h;obtain rfl:=CO.is_ok h0;obtain rfl:=CO.is_ok h1;show PT _ _ (B0Y (tC' _ _ _ _ _));rw[C0X];exact B62 (CO.ok o) (CO.ok p) (sE a S ok.1 h3) (sE b S ok.2.1 h4) (sE c S ok.2.2 h5) (S8 h2)
  |_=>(change (_&&_)=true at h;dsimp[Ga]at h;exact C15 (sE _ S ok h.2) (B46 h.1))
 |not t=>
  delta A03 e op e pos
  replace h:=dA h;obtain⟨rfl,h⟩:=h
  exact C16 (sT t S ok h)
 |bool k ts=>
  delta A8g e op vs pos
  change (_&&_)=true at h;dsimp[Ga]at h
  cases op with
  |And=>have hk:k=true:=h.1;subst hk;exact((sTs ts S ok h.2).1).pt
  |Or=>
   have hk:k=false:=by simpa using h.1
   subst hk;exact((sTs ts S ok h.2).2).pt
theorem sTs: ∀(ts:DTs){X:Cx}{N:List Str}{sc:Scope}{es:List Expr}{pos:Pos},Sc X N sc->C7z X.wd ts->C29 N sc ts es=true->PW X (.BoolOp .And es pos) (A0k X.K true ts)/\PW X (.BoolOp .Or es pos) (A0k X.K false ts):=by
 intro ts X N sc es pos S ok h
 cases ts with
 |one t=>
  match es with
  |[e]=>exact⟨B9C (sT t S ok h),C13 (sT t S ok h)⟩
  |[]=>exact nf h
  |_::_::_=>exact nf h
 |c t ts=>
  match es with
  |e::b::vs=>change (_&&_)=true at h;dsimp[Ga]at h;have q:=sTs ts (pos:=pos) S ok.2 h.2;exact⟨C14 (sT t S ok.1 h.1) q.1,C4u (sT t S ok.1 h.1) q.2⟩
  |[]=>exact nf h
  |[_]=>exact nf h
theorem sW: ∀(t:DW){X:Cx}{N:List Str}{sc:Scope}{es:List Expr},Sc X N sc->okW X.wd t->ckW N sc t es=true->PTs X es (B0k X.K t):=by
 intro t X N sc es S ok h
 cases t with
 |z=>
  cases es with
  |nil=>exact B9E
  |cons _ _=>exact nf h
 |one t=>
  match es with
  |[e]=>exact B9D (sT t S ok h)
  |[]=>exact nf h
  |_::_::_=>exact nf h
theorem sI: ∀(d:DI){X:Cx}{N:List Str}{sc:Scope}{tg e:Expr},Sc X N sc->okI X.wd d->ckI N sc d tg e=true->PI X tg e (A4x X.K d):=by
 intro d X N sc tg e S ok h
 cases d with
 |list d=>
  skip
  refine(B9N (sE d S ok h).up).weak fun J H R q=>⟨_,q,?_⟩;rintro x H1 ⟨a,xs,h1,h2,h3⟩;exact⟨a,h1,⟨xs,sqL h2⟩,h3⟩
 |tup d=>
  skip
  refine(B7d (sE d S ok h).up).weak fun J H R q=>⟨_,q,?_⟩;rintro x H1 ⟨a,xs,h1,h2,h3⟩;exact⟨a,h1,⟨xs,sqT h2⟩,h3⟩
 |tupG x p xs=>
  skip
  obtain⟨hg,_⟩:=Z3 S.hs h ok.1;exact(B7d hg).weak fun J H R q=>⟨p,rfl,⟨xs,ok.2.sq H⟩,q⟩
 |str d=>exact C2g (sE d S ok h)
 |range d=>
  delta M6 e fn args kws pos
  delta M5 fn x p
  delta S6 args e
  delta A0r kws
  change (_&&_)=true at h;dsimp[Ga,Gb]at h;obtain⟨⟨⟨rfl,h1⟩,h2⟩,h3⟩:=h;exact B47 (P9 S.hs h1) ok.1 (Y7 (sE d S ok.2 h3) A07 (A0M h2)) (A0M h2)
 |enums d=>
  delta A5U tg ts k tp
  delta M6 e fn args kws pos
  delta M5 fn x p
  delta S6 args e
  delta A0r kws
  change (_&&_)=true at h;dsimp[Ga,Gb]at h;obtain⟨⟨⟨rfl,h1⟩,h2⟩,h3⟩:=h;exact B7f (P9 S.hs h1) ok.1 (Y7 (sE d S ok.2 h3) A07 (A0M h2)) (A0M h2)
end
def sG{g:DG}{X:Cx}{N:List Str}{sc:Scope}{e:Expr}(S:Sc X N sc)(hf: ∀x,X.fn x=true)(h:ckG N sc g e=true):PG X e (B8k X.K g):=by
 cases g with
 |name i=>exact B3r S hf h
 |two i j=>
  delta A5U e es k pos
  delta B4R es a b
  change (_&&_)=true at h;dsimp[Ga]at h;obtain⟨⟨⟨h1,h2⟩,h3⟩,h4⟩:=h;have hb:assignEach [b] X.env=[(false,assign b X.env)]:=by cases b<;>first|rfl|exact nf h2
  have ha:assignEach [a,b] X.env=[(false,assign a X.env),(false,assign b X.env)]:=by rw[<-hb];cases a<;>first|rfl|exact nf h1
  exact C2h S.calm (B1n (B3r S hf h3) (B1n (B3r S hf h4) B9O (by rw[hb];rfl)) (by rw[ha,hb];rfl)) (by rw[ha];rfl) (by rw[ha];rfl)
structure Sd(X:Cx)(N:List Str)(sc:Scope):Prop extends Sc X N sc where
 hf: ∀x,X.fn x=true
 pn:PassesOwn (model X.prog X.w) X.A X.env X.xe
def sS0(d:DS){X:Cx}{N:List Str}{sc:Scope}{st:Stmt}(S:Sd X N sc)(ok:okS X.wd d)(h:ckS N sc d st=true)(h1: ∀t a b,d≠ .i t a b)(h2: ∀t b,d≠ .whl t b)(h3: ∀g it b,d≠ .fr g it b):PS X st (A3P X.K d):=by
 cases d with
 |i t a b=>exact Gn rfl (h1 t a b)
 |whl t b=>exact Gn rfl (h2 t b)
 |fr g it b=>exact Gn rfl (h3 g it b)
 |expr d=>
  delta B84 st e pos
  change (_&&_)=true at h;dsimp[Ga]at h;exact B9J (sE d S.toSc ok h.2) (A4k h.1)
 |r d=>
  delta A8f st e pos
  delta C6B e e
  exact C18 (sE d S.toSc ok h)
 |retN=>
  delta A8f st e pos
  delta C1r e
  exact B9I
 |set i d=>
  delta A2d st ts e pos
  delta S6 ts t
  delta M5 t x p
  change (_&&_)=true at h;dsimp[Ga,Gb]at h;obtain⟨⟨h1,h2⟩,h3⟩:=h;exact C17 (by rw[S.hN];exact S.nd) (by rw[S.hN];exact h2.1) (by rw[S.hs];exact B1F h2.2) (sE d S.toSc ok h3) (A4k h1) (.inl (S.hf x))
 |setF C o f d=>
  delta A2d st ts e pos
  delta S6 ts t
  skip
  delta G7 t a g p
  change (_&&_)=true at h;dsimp[Ga,Gb]at h;obtain⟨⟨rfl,h2⟩,h3⟩:=h;refine(C2a (sE o S.toSc ok.2.1 h2).up (sE d S.toSc ok.2.2 h3).up C0D).weak λD J H q=>⟨_,q,?_⟩;rintro y H1 q;refine⟨_,q,?_⟩;rintro x H2 ⟨a,dx,fs,k1,k2,k3,k4⟩;exact⟨a,C,dx,fs,k1,k2,ok.1.1,ok.1.2,k3,k4⟩
 |setI o i d=>
  delta A2d st ts e pos
  delta S6 ts t
  skip
  delta U4 t a b p
  change (_&&_)=true at h;dsimp[Ga]at h;obtain⟨⟨⟨⟨h1,h2⟩,h3⟩,h4⟩,h5⟩:=h;exact C2b (sE d S.toSc ok.2.2 h5) (C2i (sE o S.toSc ok.1 h3) (sE i S.toSc ok.2.1 h4) B6P (by intro v;cases b<;>first|rfl|exact nf h2)) (by dsimp[swapsWithSole];exact A4k h1) rfl rfl
 |setLc i own g it t d=>
  delta A2d st ts e pos
  delta S6 ts tt
  skip
  delta M5 tt y py
  delta A4H e e gs scope pos2
  delta S6 gs cc;obtain⟨tg,iter,ifs,k⟩:=cc
  change (_&&_)=true at h;dsimp[Ga,Gb,Jo]at h;obtain⟨⟨⟨⟨⟨⟨⟨⟨⟨⟨h1,h2⟩,h3⟩,h4⟩,rfl⟩,h5⟩,h6⟩,h7⟩,h8⟩,h9⟩,h10⟩:=h
  exact B7b S.calm (by rw[S.hN];exact S.nd) (by rw[S.hN];exact h1) (by rw[S.hs];exact h2) (B9b (by rw[S.hs];exact S.kd) (by rw[S.hs];exact h2) h3 h4) (sI it S.toSc ok.1 h7) (by rw[S.hN,S.hs];exact A69 h6)
   (λs H C cl fp=>B8r (S.toSc.blk h6 s H C cl fp) h8) (λs H C cl fp=>sW t (S.toSc.blk h6 s H C cl fp) ok.2.1 h9) (λs H C cl fp=>sE d (S.toSc.blk h6 s H C cl fp) ok.2.2 h10) (A6k h5)
mutual
theorem sS: ∀(d:DS){X:Cx}{N:List Str}{sc:Scope}{st:Stmt},Sd X N sc->okS X.wd d->ckS N sc d st=true->PS X st (A3P X.K d):=by
 intro d X N sc st S ok h
 cases d with
 |i t a b=>
  delta C3N st c l r pos
  change (_&&_)=true at h;dsimp[Ga]at h;exact C4v (sT t S.toSc ok.1 h.1.1) (sSs a S ok.2.1 h.1.2) (sSs b S ok.2.2 h.2)
 |whl t b=>
  delta B57 st c l r pos
  delta A0r r
  change (_&&_)=true at h;dsimp[Ga]at h;exact B7a S.pn (sT t S.toSc ok.1 h.1) (sSs b S ok.2 h.2)
 |fr g it b=>
  delta C1q st tg e l r pos
  delta A0r r
  change (_&&_)=true at h;dsimp[Ga]at h;exact C19 S.pn S.calm (sI it S.toSc ok.1 h.1.2) (sG S.toSc S.hf h.1.1.2) (sSs b S ok.2 h.2) (A6k h.1.1.1)
 |_=>exact sS0 _ S ok h (λ_ _ _ q=>nomatch q) (λ_ _ q=>nomatch q) (λ_ _ _ q=>nomatch q)
theorem sSs: ∀(d:DB){X:Cx}{N:List Str}{sc:Scope}{sts:List Stmt},Sd X N sc->C2B X.wd d->A72 N sc d sts=true->PSs X sts (J7 X.K d):=by
 intro d X N sc sts S ok h
 cases d with
 |z=>
  cases sts with
  |nil=>exact B9H
  |cons _ _=>exact nf h
 |c d ds=>
  cases sts with
  |nil=>exact nf h
  |cons st sts=>change (_&&_)=true at h;dsimp[Ga]at h;exact B69 (sS d S ok.1 h.1) (sSs ds S ok.2 h.2)
end
section
variable{P:Nk}{w:World}{K:Fg}{mg:MG}{base:Heap}
def C00{N ps:List Str}{qual:Str}{st:Stmt}{k:Nat}{f:Nh}{cdv:Nj}{A:Around}{outer:List Env}{s:Ni}{H:Hp}{E:XK}(S:W8 N ps (C6 st))(hr:Q8 k (A.deeper (envOfC qual (C6 st) s.heap.objs.size f cdv))):
  Sd (B0l CX0 P w K mg base N qual (C6 st) f cdv A outer s H E).nox N (C6 st):=
 {hN:=rfl,nd:=S.nd,hs:=rfl,kd:=S.kind,calm:=rfl,hu:=C5h hr,hf:=λ_=>rfl,pn:=PassesOwn.never}
structure In(W:Wd)(P:Nk)(w:World)(K:Fg)(mg:MG)(base:Heap)(k:Nat):Prop where
 P:W.P=P
 w:W.w=w
 K:W.K=K
 mg:W.mg=mg
 base:W.base=base
 hr:Q8 k W.A
def B1.go{x:Str}{st:Stmt}{N ps:List Str}{k:Nat}{sp:Sp}(F:B1 K mg x st ps)(S:W8 N ps (C6 st))(d:DB)(ck:A72 N (C6 st) d (M9 st)=true)(len: ∀vs H Q E,sp vs H Q E->vs.length=ps.length)(ok: ∀W:Wd,In W P w K mg base k->C2B W d)(h: ∀(H:Hp)(vs:List V)(Q:VK)(E:XK),sp vs H Q E->J7 K d {nx:=λ_ H'=>Q .non H',rt:=Q} (A0L N vs) H):Cal P w K mg base (k+1) x ps sp:=
 F.cal S len λf cdv A outer s H vs Q E hr hsp=>⟨_,sSs d (C00 S hr) (ok _ ⟨rfl,rfl,rfl,rfl,rfl,hr⟩) ck,h H vs Q E hsp⟩
def Y6.go{x qual:Str}{st:Stmt}{N ps:List Str}{C:Nh}{k:Nat}{sp:Sp}(F:Y6 K mg x qual st ps C)(S:W8 N ps (C6 st))(d:DB)(ck:A72 N (C6 st) d (M9 st)=true)(len: ∀vs H Q E,sp vs H Q E->vs.length=ps.length)(ok: ∀W:Wd,In W P w K mg base k->C2B W d)(h: ∀(H:Hp)(vs:List V)(Q:VK)(E:XK),sp vs H Q E->J7 K d {nx:=λ_ H'=>Q .non H',rt:=Q} (A0L N vs) H):Kls P w K mg base (k+1) x C ps sp:=
 F.kls S len λf cdv A outer s H vs Q E hr hsp=>⟨_,sSs d (C00 S hr) (ok _ ⟨rfl,rfl,rfl,rfl,rfl,hr⟩) ck,h H vs Q E hsp⟩
def In.cal{W:Wd}{k j:Nat}{f:Str}{ps:List Str}{sp:Sp}(I:In W P w K mg base k)(c:Cal P w K mg base j f ps sp)(h: ~~~(j<=k)):B8T W f sp:=by obtain⟨rfl,rfl,rfl,rfl,rfl,hr⟩:=I;exact⟨j,ps,c,hr.mono h⟩
def In.kls{W:Wd}{k j:Nat}{x:Str}{C:Nh}{ps:List Str}{sp:Sp}(I:In W P w K mg base k)(c:Kls P w K mg base j x C ps sp)(h: ~~~(j+1<=k)):B8O W x C sp:=by obtain⟨rfl,rfl,rfl,rfl,rfl,hr⟩:=I;exact⟨j,ps,c,hr.mono h⟩
def In.glo{W:Wd}{k:Nat}{x:Str}{v:V}(I:In W P w K mg base k)(h: ∃u,mg x=some u/\D7 v u):B2A W x v:=by obtain⟨rfl,rfl,rfl,rfl,rfl,hr⟩:=I;exact h
def In.tup{W:Wd}{k:Nat}{x:Str}{p:Nh}{xs:List V}(I:In W P w K mg base k)(h: ∃u,mg x=some u/\D7 (.ref p) u)(q:B3I K p xs):B8R W x p xs:=by obtain⟨rfl,rfl,rfl,rfl,rfl,hr⟩:=I;exact⟨h,q⟩
def In.dict{W:Wd}{k:Nat}{x:Str}{p:Nh}{kvs:List (S4×V)}(I:In W P w K mg base k)(h: ∃u,mg x=some u/\D7 (.ref p) u)(q:B2y P w K p kvs):B4P W x p kvs:=by obtain⟨rfl,rfl,rfl,rfl,rfl,hr⟩:=I;exact⟨h,q⟩
def In.fld{W:Wd}{k:Nat}{C:Nh}{f:Str}(I:In W P w K mg base k)(h:Cls K C)(q:A1d K C f):C1o W C f:=by obtain⟨rfl,rfl,rfl,rfl,rfl,hr⟩:=I;exact⟨h,q⟩
def In.blt{W:Wd}{k:Nat}{x:Str}(I:In W P w K mg base k)(h:mg x=none):C1p W x:=by obtain⟨rfl,rfl,rfl,rfl,rfl,hr⟩:=I;exact h
end
end L2
namespace PP
open PySem PySem.Spec PyProof.Rows L2
def E6(i:Nat):Stmt:=PySem.Challenge.pw_payingpromises_s01_answers.main.body.getD i (.Pass ⟨0,0,0,0⟩)
abbrev A4h:Stmt:=(E6 172)
def lcl(st:Stmt):List Str:=((C6 st).names.filter λx=>x.2== .local).map (·.1)
structure Ad where
 G1:Nh
 B6:Nh
 C0:Nh
 A7:Nh
 B9:Nh
 A8:Nh
 K4:Nh
 D0:Nh
 D5:Nh
 A2k:Nh
 A1P:Nh
 A3A:Nh
 A25:Nh
 A1O:Nh
 B3d:Nh
 A97:Nh
 A26:Nh
 A96:Nh
 A2l:Nh
 U1:List Nh
def ad:Ad:={G1:=64,B6:=85,C0:=113,A7:=132,B9:=160,A8:=237,K4:=442,D0:=463,D5:=679,A2k:=36,A1P:=37,A3A:=38,A25:=39,A1O:=40,B3d:=425,A97:=620,A26:=698,A96:=774,A2l:=950,U1:=[781,788,795,802,809,816,823,830,837,844,851,858,865,872,879,886,893,900,907,914,921,928,935,942,949]}
noncomputable def A0q:DB:= (.c (.r (.chain .le .le (.int 0) (.v 0) (.glo "LAST_DAY" (.int (1000))))) .z)
noncomputable def W5:DB:= (.c (.r (.chain .le .le (.neg (.glo "MOST_NUMBER" (.int (999999999)))) (.v 0) (.glo "MOST_NUMBER" (.int (999999999))))) .z)
noncomputable def M1:DB:= (.c (.r (.chain .le .le (.neg (.glo "MOST_SEEN" (.int (1000000)))) (.v 0) (.glo "MOST_SEEN" (.int (1000000))))) .z)
noncomputable def G2:DB:= (.c (.i (.e (.m .eq (.v 0) (.str "c"))) (.c (.r (.kget "PROMISES" ad.A2k [(.inr "nothing",.str ""),(.inr "one",.str "u"),(.inr "both",.str "cc"),(.inr "or",.str "cc"),(.inr "turn",.str "c"),(.inr "times",.str "xc"),(.inr "if",.str "pcc"),(.inr "at",.str "dc"),(.inr "when",.str "dpc"),(.inr "any",.str "dc")] (.v 1) (.str ""))) .z) .z) (.c (.i (.e (.m .eq (.v 0) (.str "p"))) (.c (.r (.kget "CONDITIONS" ad.A1P [(.inr "le",.str "xx"),(.inr "lt",.str "xx"),(.inr "not",.str "p"),(.inr "all",.str "pp"),(.inr "some",.str "pp")] (.v 1) (.str ""))) .z) .z) (.c (.i (.e (.m .eq (.v 0) (.str "x"))) (.c (.r (.kget "AMOUNTS" ad.A3A [(.inr "add",.str "xx"),(.inr "sub",.str "xx"),(.inr "mul",.str "xx")] (.v 1) (.str ""))) .z) .z) (.c (.r (.str "")) .z))))
noncomputable def A7s:DB:= (.c (.setF ad.G1 (.v 0) "holder" (.v 1)) (.c (.setF ad.G1 (.v 0) "other" (.v 2)) (.c (.setF ad.G1 (.v 0) "day" (.v 3)) (.c (.setF ad.G1 (.v 0) "wanting" (.v 4)) (.c (.setF ad.G1 (.v 0) "over" (.v 5)) .z)))))
noncomputable def A7q:DB:= (.c (.setF ad.B6 (.v 0) "number" (.int 0)) (.c (.setF ad.B6 (.v 0) "deal" (.v 1)) (.c (.setF ad.B6 (.v 0) "holder" (.v 2)) (.c (.setF ad.B6 (.v 0) "other" (.v 3)) (.c (.setF ad.B6 (.v 0) "times" (.v 4)) (.c (.setF ad.B6 (.v 0) "promise" (.v 5)) (.c (.setF ad.B6 (.v 0) "looked" (.neg (.int 1))) .z)))))))
noncomputable def A18(L1:Sp):DB:= (.c (.set 3 (.make "Item" ad.B6 L1 (.c (.g ad.B6 (.v 0) "deal") (.c (.v 1) (.c (.v 2) (.c (.g ad.B6 (.v 0) "times") (.c (.g ad.B6 (.v 0) "promise") .z))))))) (.c (.setF ad.B6 (.v 3) "number" (.g ad.B6 (.v 0) "number")) (.c (.setF ad.B6 (.v 3) "looked" (.g ad.B6 (.v 0) "looked")) (.c (.r (.v 3)) .z))))
noncomputable def A2S:DB:= (.c (.setF ad.C0 (.v 0) "day" (.v 1)) (.c (.setF ad.C0 (.v 0) "deal" (.v 2)) (.c (.setF ad.C0 (.v 0) "giver" (.v 3)) (.c (.setF ad.C0 (.v 0) "taker" (.v 4)) (.c (.setF ad.C0 (.v 0) "unit" (.v 5)) (.c (.setF ad.C0 (.v 0) "amount" (.v 6)) .z))))))
noncomputable def A5s:DB:= (.c (.setF ad.A7 (.v 0) "parties" (.v 1)) (.c (.setF ad.A7 (.v 0) "day" (.int 0)) (.c (.setF ad.A7 (.v 0) "shelf" (.lst .z)) (.c (.setF ad.A7 (.v 0) "deals" (.lst .z)) (.c (.setF ad.A7 (.v 0) "pending" (.lst .z)) (.c (.setF ad.A7 (.v 0) "numbered" (.int 0)) (.c (.setF ad.A7 (.v 0) "payments" (.lst .z)) (.c (.setF ad.A7 (.v 0) "seen" (.int 0)) (.c (.setF ad.A7 (.v 0) "worths" (.lc [("name",2)] 2 (.tupG "NAMES" ad.A1O [.str "a",.str "b",.str "c",.str "d",.str "e",.str "f",.str "g",.str "h"]) .z (.int 0))) .z)))))))))
noncomputable def A9o(U7:Sp):DB:= (.c (.set 1 (.make "State" ad.A7 U7 (.c (.g ad.A7 (.v 0) "parties") .z))) (.c (.setF ad.A7 (.v 1) "day" (.g ad.A7 (.v 0) "day")) (.c (.setF ad.A7 (.v 1) "shelf" (.blt .list (.c (.g ad.A7 (.v 0) "shelf") .z))) (.c (.setF ad.A7 (.v 1) "deals" (.blt .list (.c (.g ad.A7 (.v 0) "deals") .z))) (.c (.setF ad.A7 (.v 1) "pending" (.blt .list (.c (.g ad.A7 (.v 0) "pending") .z))) (.c (.setF ad.A7 (.v 1) "numbered" (.g ad.A7 (.v 0) "numbered")) (.c (.setF ad.A7 (.v 1) "payments" (.blt .list (.c (.g ad.A7 (.v 0) "payments") .z))) (.c (.setF ad.A7 (.v 1) "seen" (.g ad.A7 (.v 0) "seen")) (.c (.setF ad.A7 (.v 1) "worths" (.blt .list (.c (.g ad.A7 (.v 0) "worths") .z))) (.c (.r (.v 1)) .z))))))))))
noncomputable def A7r(U7:Sp):DB:= (.c (.setF ad.B9 (.v 0) "now" (.make "State" ad.A7 U7 (.c (.int 0) .z))) (.c (.setF ad.B9 (.v 0) "before" (.lst .z)) (.c (.setF ad.B9 (.v 0) "undone" (.lst .z)) .z)))
noncomputable def A3U(U7:Sp):DB:= (.c (.setF ad.B9 (.v 0) "now" (.make "State" ad.A7 U7 (.c (.v 1) .z))) (.c (.setF ad.B9 (.v 0) "before" (.lst .z)) (.c (.setF ad.B9 (.v 0) "undone" (.lst .z)) .z)))
noncomputable def A2Q:DB:= (.c (.expr (.mt .append (.g ad.B9 (.v 0) "before") (.g ad.B9 (.v 0) "now"))) (.c (.i (.e (.m .gt (.blt .lenL (.c (.g ad.B9 (.v 0) "before") .z)) (.glo "MOST_UNDONE" (.int (32))))) (.c (.setF ad.B9 (.v 0) "before" (.sl .list (.g ad.B9 (.v 0) "before") (.yes (.int 1)) .no)) .z) .z) (.c (.setF ad.B9 (.v 0) "undone" (.lst .z)) (.c (.setF ad.B9 (.v 0) "now" (.v 1)) .z))))
noncomputable def B3:DB:= (.c (.r (.m .lt (.v 1) (.blt .lenL (.c (.g ad.A7 (.g ad.B9 (.v 0) "now") "shelf") .z)))) .z)
noncomputable def O1:DB:= (.c (.r (.m .lt (.v 1) (.blt .lenL (.c (.g ad.A7 (.g ad.B9 (.v 0) "now") "deals") .z)))) .z)
noncomputable def A5r:DB:= (.c (.fr (.name 2) (.list (.g ad.A7 (.g ad.B9 (.v 0) "now") "pending")) (.c (.i (.e (.m .eq (.g ad.B6 (.v 2) "number") (.v 1))) (.c (.r (.v 2)) .z) .z) .z)) (.c (.r .non) .z))
noncomputable def Z9:DB:= (.c (.r (.m .ge (.blt .lenL (.c (.g ad.A7 (.g ad.B9 (.v 0) "now") "shelf") .z)) (.glo "MOST_SHELVED" (.int (16))))) .z)
noncomputable def A7f(A2Y F4 D1:Sp):DB:= (.c (.i (.e (.f "is_full" A2Y (.c (.v 0) .z))) (.c (.r (.lst (.c (.glo "FULL" (.int (-28))) .z))) .z) .z) (.c (.set 2 (.f "copy_of" F4 (.c (.g ad.B9 (.v 0) "now") .z))) (.c (.expr (.mt .append (.g ad.A7 (.v 2) "shelf") (.v 1))) (.c (.expr (.f "keep_change" D1 (.c (.v 0) (.c (.v 2) .z)))) (.c (.r (.lst (.c (.bin .sub (.blt .lenL (.c (.g ad.A7 (.v 2) "shelf") .z)) (.int 1)) .z))) .z)))))
noncomputable def Q7:DB:= (.c (.i (.e (.m .eq (.v 0) (.str "add"))) (.c (.r (.bin .add (.v 1) (.v 2))) .z) .z) (.c (.i (.e (.m .eq (.v 0) (.str "sub"))) (.c (.r (.bin .sub (.v 1) (.v 2))) .z) .z) (.c (.i (.e (.m .eq (.v 0) (.str "mul"))) (.c (.r (.bin .mul (.v 1) (.v 2))) .z) .z) (.c (.i (.e (.m .eq (.v 0) (.str "le"))) (.c (.r (.m .le (.v 1) (.v 2))) .z) .z) (.c (.i (.e (.m .eq (.v 0) (.str "lt"))) (.c (.r (.m .lt (.v 1) (.v 2))) .z) .z) (.c (.i (.e (.m .eq (.v 0) (.str "all"))) (.c (.r (.bool true (.c (.v 1) (.c (.v 2) .z)))) .z) .z) (.c (.r (.bool false (.c (.v 1) (.c (.v 2) .z)))) .z)))))))
noncomputable def A7p:DB:= (.c (.setF ad.A8 (.v 0) "word" (.v 1)) (.c (.setF ad.A8 (.v 0) "parts" (.v 2)) (.c (.setF ad.A8 (.v 0) "text" (.v 3)) (.c (.setF ad.A8 (.v 0) "value" (.int 0)) (.c (.setF ad.A8 (.v 0) "names" (.int 0)) (.c (.setF ad.A8 (.v 0) "last" (.int 0)) (.c (.setF ad.A8 (.v 0) "size" (.int 0)) (.c (.setF ad.A8 (.v 0) "plain" (.bl true)) .z))))))))
noncomputable def A2P(L0:Sp):DB:= (.c (.set 1 (.make "Part" ad.A8 L0 (.c (.str "number") (.c (.tup .z) (.c (.blt .str (.c (.v 0) .z)) .z))))) (.c (.setF ad.A8 (.v 1) "value" (.v 0)) (.c (.r (.v 1)) .z)))
noncomputable def A5q(L0:Sp):DB:= (.c (.set 1 (.make "Part" ad.A8 L0 (.c (.str "name") (.c (.tup .z) (.c (.ixG "NAMES" ad.A1O [.str "a",.str "b",.str "c",.str "d",.str "e",.str "f",.str "g",.str "h"] (.v 0)) .z))))) (.c (.setF ad.A8 (.v 1) "value" (.v 0)) (.c (.setF ad.A8 (.v 1) "names" (.bin .shl (.int 1) (.v 0))) (.c (.r (.v 1)) .z))))
noncomputable def A7m(L0:Sp):DB:= (.c (.set 1 (.make "Part" ad.A8 L0 (.c (.str "day") (.c (.tup .z) (.c (.blt .str (.c (.v 0) .z)) .z))))) (.c (.setF ad.A8 (.v 1) "value" (.v 0)) (.c (.setF ad.A8 (.v 1) "last" (.v 0)) (.c (.r (.v 1)) .z))))
noncomputable def A5g(L0:Sp):DB:= (.c (.set 1 (.make "Part" ad.A8 L0 (.c (.str "unit") (.c (.tup .z) (.c (.ixG "UNITS" ad.A25 [.str "A",.str "B",.str "C",.str "D"] (.v 0)) .z))))) (.c (.setF ad.A8 (.v 1) "value" (.v 0)) (.c (.r (.v 1)) .z)))
noncomputable def A9b:DB:= (.c (.i (.e (.m .eq (.blt .lenT (.c (.v 1) .z)) (.int 0))) (.c (.r (.v 0)) .z) .z) (.c (.set 2 (.join (.str ",") (.lc [("part",3)] 3 (.tup (.v 1)) .z (.g ad.A8 (.v 3) "text")))) (.c (.r (.fst (.val (.v 0) (.str "(" (.val (.v 2) (.str ")" .z)))))) .z)))
noncomputable def B2w(L0 B2S:Sp):DB:= (.c (.set 2 (.make "Part" ad.A8 L0 (.c (.v 0) (.c (.v 1) (.c (.f "text_of" B2S (.c (.v 0) (.c (.v 1) .z))) .z))))) (.c (.fr (.name 3) (.tup (.v 1)) (.c (.setF ad.A8 (.v 2) "names" (.bin .or (.g ad.A8 (.v 2) "names") (.g ad.A8 (.v 3) "names"))) (.c (.setF ad.A8 (.v 2) "last" (.blt .max (.c (.g ad.A8 (.v 2) "last") (.c (.g ad.A8 (.v 3) "last") .z)))) (.c (.setF ad.A8 (.v 2) "size" (.bin .add (.g ad.A8 (.v 2) "size") (.g ad.A8 (.v 3) "size"))) (.c (.setF ad.A8 (.v 2) "plain" (.bool true (.c (.g ad.A8 (.v 2) "plain") (.c (.g ad.A8 (.v 3) "plain") .z)))) .z))))) (.c (.i (.e (.inK "PROMISES" ad.A2k [(.inr "nothing",.str ""),(.inr "one",.str "u"),(.inr "both",.str "cc"),(.inr "or",.str "cc"),(.inr "turn",.str "c"),(.inr "times",.str "xc"),(.inr "if",.str "pcc"),(.inr "at",.str "dc"),(.inr "when",.str "dpc"),(.inr "any",.str "dc")] (.v 0))) (.c (.setF ad.A8 (.v 2) "size" (.bin .add (.g ad.A8 (.v 2) "size") (.int 1))) .z) .z) (.c (.i (.bool false (.c (.e (.m .eq (.v 0) (.str "or"))) (.one (.e (.m .eq (.v 0) (.str "any")))))) (.c (.setF ad.A8 (.v 2) "plain" (.bl false)) .z) .z) (.c (.r (.v 2)) .z)))))
noncomputable def A2R:DB:= (.c (.set 1 (.lst (.c (.v 0) .z))) (.c (.set 2 (.lst .z)) (.c (.whl (.e (.m .gt (.blt .lenL (.c (.v 1) .z)) (.int 0))) (.c (.set 3 (.pop (.v 1))) (.c (.expr (.mt .append (.v 2) (.v 3))) (.c (.expr (.mt .extT (.v 1) (.g ad.A8 (.v 3) "parts"))) .z)))) (.c (.r (.lrev (.v 2))) .z))))
noncomputable def A5k(A0b T9:Sp):DB:= (.c (.set 2 (.lst .z)) (.c (.fr (.name 3) (.list (.f "inner_first" A0b (.c (.v 0) .z))) (.c (.i (.e (.m .eq (.g ad.A8 (.v 3) "word") (.str "number"))) (.c (.expr (.mt .append (.v 2) (.g ad.A8 (.v 3) "value"))) .z) (.c (.i (.e (.m .eq (.g ad.A8 (.v 3) "word") (.str "name"))) (.c (.expr (.mt .append (.v 2) (.ix .list (.v 1) (.g ad.A8 (.v 3) "value")))) .z) (.c (.i (.e (.m .eq (.g ad.A8 (.v 3) "word") (.str "not"))) (.c (.expr (.mt .append (.v 2) (.not (.pop (.v 2))))) .z) (.c (.set 4 (.pop (.v 2))) (.c (.set 5 (.pop (.v 2))) (.c (.expr (.mt .append (.v 2) (.f "combined" T9 (.c (.g ad.A8 (.v 3) "word") (.c (.v 5) (.c (.v 4) .z)))))) .z)))) .z)) .z)) .z)) (.c (.r (.pop (.v 2))) .z)))
noncomputable def A7b(A7A B3W:Sp):DB:= (.c (.set 2 (.lrev (.v 1))) (.c (.set 3 (.lst .z)) (.c (.set 4 (.lst .z)) (.c (.whl (.e (.m .gt (.blt .lenL (.c (.v 2) .z)) (.int 0))) (.c (.set 5 (.pop (.v 2))) (.c (.i (.e (.m .gt (.blt .abs (.c (.g ad.B6 (.v 5) "times") .z)) (.glo "MOST_AMOUNT" (.int (1000000000000))))) (.c (.r (.bl false)) .z) .z) (.c (.set 6 (.f "what_comes" A7A (.c (.v 0) (.c (.v 5) .z)))) (.c (.i (.e (.m .notN (.v 6) .non)) (.c (.expr (.mt .extL (.v 2) (.lrev (.v 6)))) .z) (.c (.i (.e (.m .gt (.g ad.B6 (.v 5) "number") (.int 0))) (.c (.expr (.mt .append (.v 3) (.f "kept" B3W (.c (.v 0) (.c (.v 5) (.c (.g ad.B6 (.v 5) "number") .z)))))) .z) (.c (.setF ad.A7 (.v 0) "numbered" (.bin .add (.g ad.A7 (.v 0) "numbered") (.int 1))) (.c (.expr (.mt .append (.v 4) (.f "kept" B3W (.c (.v 0) (.c (.v 5) (.c (.g ad.A7 (.v 0) "numbered") .z)))))) .z))) .z)) .z))))) (.c (.setF ad.A7 (.v 0) "pending" (.bin .cat (.bin .cat (.g ad.A7 (.v 0) "pending") (.v 3)) (.v 4))) (.c (.r (.bool true (.c (.m .le (.blt .lenL (.c (.g ad.A7 (.v 0) "pending") .z)) (.glo "MOST_ITEMS" (.int (48)))) (.c (.m .le (.blt .lenL (.c (.g ad.A7 (.v 0) "payments") .z)) (.glo "MOST_PAYMENTS" (.int (400)))) .z)))) .z))))))
noncomputable def A15(X4:Sp):DB:= (.c (.set 1 (.g ad.A7 (.v 0) "pending")) (.c (.setF ad.A7 (.v 0) "pending" (.lst .z)) (.c (.r (.f "work_out" X4 (.c (.v 0) (.c (.v 1) .z)))) .z)))
noncomputable def B8B(V9 A1D:Sp):DB:= (.c (.set 3 (.f "had" V9 (.c (.v 1) (.c (.g ad.B6 (.v 1) "promise") .z)))) (.c (.setF ad.B6 (.v 3) "number" (.v 2)) (.c (.i (.bool true (.c (.e (.m .eq (.g ad.A8 (.g ad.B6 (.v 1) "promise") "word") (.str "when"))) (.one (.not (.e (.f "waits" A1D (.c (.v 0) (.c (.v 1) .z)))))))) (.c (.setF ad.B6 (.v 3) "looked" (.g ad.A7 (.v 0) "day")) .z) .z) (.c (.r (.v 3)) .z))))
noncomputable def B4K(U5:Sp):DB:= (.c (.r (.m .ne (.bin .and (.f "names_measured" U5 (.c (.g ad.B6 (.v 1) "promise") .z)) (.inv (.g ad.A7 (.v 0) "seen"))) (.int 0))) .z)
noncomputable def N5:DB:= (.c (.i (.bool false (.c (.e (.m .eq (.g ad.A8 (.v 0) "word") (.str "times"))) (.one (.e (.m .eq (.g ad.A8 (.v 0) "word") (.str "if")))))) (.c (.r (.g ad.A8 (.ix .tup (.g ad.A8 (.v 0) "parts") (.int 0)) "names")) .z) .z) (.c (.i (.e (.m .eq (.g ad.A8 (.v 0) "word") (.str "when"))) (.c (.r (.g ad.A8 (.ix .tup (.g ad.A8 (.v 0) "parts") (.int 1)) "names")) .z) .z) (.c (.r (.int 0)) .z)))
noncomputable def A1m(U5:Sp):DB:= (.c (.set 1 (.int 0)) (.c (.fr (.name 2) (.list (.g ad.A7 (.v 0) "pending")) (.c (.set 1 (.bin .or (.v 1) (.f "names_measured" U5 (.c (.g ad.B6 (.v 2) "promise") .z)))) .z)) (.c (.r (.bin .and (.v 1) (.inv (.g ad.A7 (.v 0) "seen")))) .z)))
noncomputable def F0(B9h V9 L1 A1D A2s A4a:Sp):DB:= (.c (.set 2 (.g ad.A8 (.g ad.B6 (.v 1) "promise") "word")) (.c (.set 3 (.g ad.A8 (.g ad.B6 (.v 1) "promise") "parts")) (.c (.i (.e (.m .eq (.v 2) (.str "nothing"))) (.c (.r (.lst .z)) .z) .z) (.c (.i (.e (.m .eq (.v 2) (.str "one"))) (.c (.expr (.f "book" B9h (.c (.v 0) (.c (.v 1) .z)))) (.c (.r (.lst .z)) .z)) .z) (.c (.i (.e (.m .eq (.v 2) (.str "both"))) (.c (.r (.lst (.c (.f "had" V9 (.c (.v 1) (.c (.ix .tup (.v 3) (.int 0)) .z))) (.c (.f "had" V9 (.c (.v 1) (.c (.ix .tup (.v 3) (.int 1)) .z))) .z)))) .z) .z) (.c (.i (.e (.m .eq (.v 2) (.str "or"))) (.c (.r .non) .z) .z) (.c (.i (.e (.m .eq (.v 2) (.str "turn"))) (.c (.r (.lst (.c (.make "Item" ad.B6 L1 (.c (.g ad.B6 (.v 1) "deal") (.c (.g ad.B6 (.v 1) "other") (.c (.g ad.B6 (.v 1) "holder") (.c (.g ad.B6 (.v 1) "times") (.c (.ix .tup (.v 3) (.int 0)) .z)))))) .z))) .z) .z) (.c (.i (.bool false (.c (.e (.m .eq (.v 2) (.str "times"))) (.one (.e (.m .eq (.v 2) (.str "if")))))) (.c (.r (.ife (.e (.f "waits" A1D (.c (.v 0) (.c (.v 1) .z)))) .non (.f "what_is_measured" A2s (.c (.v 0) (.c (.v 1) .z))))) .z) .z) (.c (.r (.f "what_is_dated" A4a (.c (.v 0) (.c (.v 1) .z)))) .z)))))))))
noncomputable def C1k(L1:Sp):DB:= (.c (.r (.make "Item" ad.B6 L1 (.c (.g ad.B6 (.v 0) "deal") (.c (.g ad.B6 (.v 0) "holder") (.c (.g ad.B6 (.v 0) "other") (.c (.g ad.B6 (.v 0) "times") (.c (.v 1) .z))))))) .z)
noncomputable def B8C(A1H:Sp):DB:= (.c (.set 2 (.g ad.A8 (.ix .tup (.g ad.A8 (.g ad.B6 (.v 1) "promise") "parts") (.int 0)) "value")) (.c (.i (.e (.m .gt (.g ad.B6 (.v 1) "times") (.int 0))) (.c (.expr (.mt .append (.g ad.A7 (.v 0) "payments") (.make "Payment" ad.C0 A1H (.c (.g ad.A7 (.v 0) "day") (.c (.g ad.B6 (.v 1) "deal") (.c (.g ad.B6 (.v 1) "other") (.c (.g ad.B6 (.v 1) "holder") (.c (.v 2) (.c (.g ad.B6 (.v 1) "times") .z))))))))) .z) .z) (.c (.i (.e (.m .lt (.g ad.B6 (.v 1) "times") (.int 0))) (.c (.expr (.mt .append (.g ad.A7 (.v 0) "payments") (.make "Payment" ad.C0 A1H (.c (.g ad.A7 (.v 0) "day") (.c (.g ad.B6 (.v 1) "deal") (.c (.g ad.B6 (.v 1) "holder") (.c (.g ad.B6 (.v 1) "other") (.c (.v 2) (.c (.neg (.g ad.B6 (.v 1) "times")) .z))))))))) .z) .z) .z)))
noncomputable def T8(N9 L1 V9:Sp):DB:= (.c (.set 2 (.g ad.A8 (.g ad.B6 (.v 1) "promise") "parts")) (.c (.set 3 (.f "result_of" N9 (.c (.ix .tup (.v 2) (.int 0)) (.c (.g ad.A7 (.v 0) "worths") .z)))) (.c (.i (.e (.m .eq (.g ad.A8 (.g ad.B6 (.v 1) "promise") "word") (.str "times"))) (.c (.r (.lst (.c (.make "Item" ad.B6 L1 (.c (.g ad.B6 (.v 1) "deal") (.c (.g ad.B6 (.v 1) "holder") (.c (.g ad.B6 (.v 1) "other") (.c (.bin .mul (.g ad.B6 (.v 1) "times") (.v 3)) (.c (.ix .tup (.v 2) (.int 1)) .z)))))) .z))) .z) .z) (.c (.r (.lst (.c (.f "had" V9 (.c (.v 1) (.c (.ife (.e (.v 3)) (.ix .tup (.v 2) (.int 1)) (.ix .tup (.v 2) (.int 2))) .z))) .z))) .z))))
noncomputable def T1(V9 A1D N9:Sp):DB:= (.c (.set 2 (.g ad.A8 (.g ad.B6 (.v 1) "promise") "word")) (.c (.set 3 (.g ad.A8 (.g ad.B6 (.v 1) "promise") "parts")) (.c (.set 4 (.g ad.A8 (.ix .tup (.v 3) (.int 0)) "value")) (.c (.i (.e (.m .gt (.g ad.A7 (.v 0) "day") (.v 4))) (.c (.r (.lst .z)) .z) .z) (.c (.i (.bool true (.c (.e (.m .eq (.v 2) (.str "at"))) (.one (.e (.m .eq (.g ad.A7 (.v 0) "day") (.v 4)))))) (.c (.r (.lst (.c (.f "had" V9 (.c (.v 1) (.c (.ix .tup (.v 3) (.int 1)) .z))) .z))) .z) .z) (.c (.i (.bool true (.c (.e (.m .eq (.v 2) (.str "when"))) (.c (.e (.m .lt (.g ad.B6 (.v 1) "looked") (.g ad.A7 (.v 0) "day"))) (.one (.not (.e (.f "waits" A1D (.c (.v 0) (.c (.v 1) .z))))))))) (.c (.i (.e (.f "result_of" N9 (.c (.ix .tup (.v 3) (.int 1)) (.c (.g ad.A7 (.v 0) "worths") .z)))) (.c (.r (.lst (.c (.f "had" V9 (.c (.v 1) (.c (.ix .tup (.v 3) (.int 2)) .z))) .z))) .z) .z) .z) .z) (.c (.r .non) .z)))))))
noncomputable def U3(A0c F4 O4 D1:Sp):DB:= (.c (.i (.bool false (.c (.e (.m .ge (.v 1) (.lenG "NAMES" ad.A1O [.str "a",.str "b",.str "c",.str "d",.str "e",.str "f",.str "g",.str "h"]))) (.one (.not (.e (.f "can_be_seen" A0c (.c (.v 2) .z))))))) (.c (.r (.lst (.c (.glo "WRONG" (.int (-22))) .z))) .z) .z) (.c (.set 3 (.bin .shl (.int 1) (.v 1))) (.c (.i (.e (.m .ne (.bin .and (.g ad.A7 (.g ad.B9 (.v 0) "now") "seen") (.v 3)) (.int 0))) (.c (.r (.lst (.c (.glo "ALREADY" (.int (-17))) .z))) .z) .z) (.c (.set 4 (.f "copy_of" F4 (.c (.g ad.B9 (.v 0) "now") .z))) (.c (.setF ad.A7 (.v 4) "seen" (.bin .or (.g ad.A7 (.v 4) "seen") (.v 3))) (.c (.setI (.g ad.A7 (.v 4) "worths") (.v 1) (.v 2)) (.c (.i (.not (.e (.f "work_out_all" O4 (.c (.v 4) .z)))) (.c (.r (.lst (.c (.glo "TOO_MUCH" (.int (-75))) .z))) .z) .z) (.c (.expr (.f "keep_change" D1 (.c (.v 0) (.c (.v 4) .z)))) (.c (.r (.lst (.c (.int 0) .z))) .z)))))))))
noncomputable def A3X(U6 Y2:Sp):DB:= (.c (.set 4 (.f "find_item" U6 (.c (.v 0) (.c (.v 2) .z)))) (.c (.i (.e (.m .isN (.v 4) .non)) (.c (.r (.lst (.c (.glo "NO_SUCH" (.int (-2))) .z))) .z) .z) (.c (.i (.e (.m .ne (.g ad.A8 (.g ad.B6 (.v 4) "promise") "word") (.str "or"))) (.c (.r (.lst (.c (.glo "OUT_OF_PLACE" (.int (-16))) .z))) .z) .z) (.c (.i (.e (.m .ne (.g ad.B6 (.v 4) "holder") (.v 1))) (.c (.r (.lst (.c (.glo "NOT_THEIRS" (.int (-1))) .z))) .z) .z) (.c (.i (.e (.m .ge (.v 3) (.blt .lenT (.c (.g ad.A8 (.g ad.B6 (.v 4) "promise") "parts") .z)))) (.c (.r (.lst (.c (.glo "WRONG" (.int (-22))) .z))) .z) .z) (.c (.r (.f "have_instead" Y2 (.c (.v 0) (.c (.v 4) (.c (.ix .tup (.g ad.A8 (.g ad.B6 (.v 4) "promise") "parts") (.v 3)) .z))))) .z))))))
noncomputable def A7e(U6 Y2:Sp):DB:= (.c (.set 3 (.f "find_item" U6 (.c (.v 0) (.c (.v 2) .z)))) (.c (.i (.e (.m .isN (.v 3) .non)) (.c (.r (.lst (.c (.glo "NO_SUCH" (.int (-2))) .z))) .z) .z) (.c (.i (.e (.m .ne (.g ad.A8 (.g ad.B6 (.v 3) "promise") "word") (.str "any"))) (.c (.r (.lst (.c (.glo "OUT_OF_PLACE" (.int (-16))) .z))) .z) .z) (.c (.i (.e (.m .ne (.g ad.B6 (.v 3) "holder") (.v 1))) (.c (.r (.lst (.c (.glo "NOT_THEIRS" (.int (-1))) .z))) .z) .z) (.c (.r (.f "have_instead" Y2 (.c (.v 0) (.c (.v 3) (.c (.ix .tup (.g ad.A8 (.g ad.B6 (.v 3) "promise") "parts") (.int 1)) .z))))) .z)))))
noncomputable def A2a(F4 X4 V9 D1:Sp):DB:= (.c (.set 3 (.f "copy_of" F4 (.c (.g ad.B9 (.v 0) "now") .z))) (.c (.setF ad.A7 (.v 3) "pending" (.lc [("other",4)] 4 (.list (.g ad.A7 (.v 3) "pending")) (.one (.e (.m .ne (.g ad.B6 (.v 4) "number") (.g ad.B6 (.v 1) "number")))) (.v 4))) (.c (.i (.not (.e (.f "work_out" X4 (.c (.v 3) (.c (.lst (.c (.f "had" V9 (.c (.v 1) (.c (.v 2) .z))) .z)) .z))))) (.c (.r (.lst (.c (.glo "TOO_MUCH" (.int (-75))) .z))) .z) .z) (.c (.expr (.f "keep_change" D1 (.c (.v 0) (.c (.v 3) .z)))) (.c (.r (.lst (.c (.int 0) .z))) .z)))))
noncomputable def A2b(F4 A7H V8 O4 D1:Sp):DB:= (.c (.i (.e (.m .ge (.g ad.A7 (.g ad.B9 (.v 0) "now") "day") (.glo "LAST_DAY" (.int (1000))))) (.c (.r (.lst (.c (.glo "FULL" (.int (-28))) .z))) .z) .z) (.c (.set 1 (.f "copy_of" F4 (.c (.g ad.B9 (.v 0) "now") .z))) (.c (.i (.not (.e (.f "settle_ors" A7H (.c (.v 1) .z)))) (.c (.r (.lst (.c (.glo "TOO_MUCH" (.int (-75))) .z))) .z) .z) (.c (.i (.e (.m .ne (.f "names_awaited" V8 (.c (.v 1) .z)) (.int 0))) (.c (.r (.lst (.c (.glo "UNSEEN" (.int (-61))) .z))) .z) .z) (.c (.setF ad.A7 (.v 1) "day" (.bin .add (.g ad.A7 (.v 1) "day") (.int 1))) (.c (.setF ad.A7 (.v 1) "seen" (.int 0)) (.c (.i (.not (.e (.f "work_out_all" O4 (.c (.v 1) .z)))) (.c (.r (.lst (.c (.glo "TOO_MUCH" (.int (-75))) .z))) .z) .z) (.c (.expr (.f "keep_change" D1 (.c (.v 0) (.c (.v 1) .z)))) (.c (.r (.lst (.c (.g ad.A7 (.v 1) "day") .z))) .z)))))))))
noncomputable def A3V(B02 O4:Sp):DB:= (.c (.whl (.e (.blt .any (.c (.lc [("item",1)] 1 (.list (.g ad.A7 (.v 0) "pending")) .z (.m .eq (.g ad.A8 (.g ad.B6 (.v 1) "promise") "word") (.str "or"))) .z))) (.c (.setF ad.A7 (.v 0) "pending" (.lc [("item",1)] 1 (.list (.g ad.A7 (.v 0) "pending")) .z (.f "unchosen" B02 (.c (.v 1) .z)))) (.c (.i (.not (.e (.f "work_out_all" O4 (.c (.v 0) .z)))) (.c (.r (.bl false)) .z) .z) .z))) (.c (.r (.bl true)) .z))
noncomputable def A3f(V9:Sp):DB:= (.c (.r (.ife (.e (.m .eq (.g ad.A8 (.g ad.B6 (.v 0) "promise") "word") (.str "or"))) (.f "had" V9 (.c (.v 0) (.c (.ix .tup (.g ad.A8 (.g ad.B6 (.v 0) "promise") "parts") (.int 0)) .z))) (.v 0))) .z)
noncomputable def A7d(V8:Sp):DB:= (.c (.r (.lst (.c (.g ad.A7 (.g ad.B9 (.v 0) "now") "day") (.c (.f "names_awaited" V8 (.c (.g ad.B9 (.v 0) "now") .z)) (.c (.blt .lenL (.c (.g ad.B9 (.v 0) "before") .z)) (.c (.blt .lenL (.c (.g ad.B9 (.v 0) "undone") .z)) .z)))))) .z)
noncomputable def A5t:DB:= (.c (.setF ad.K4 (.v 0) "word" (.v 1)) (.c (.setF ad.K4 (.v 0) "wanted" (.v 2)) (.c (.setF ad.K4 (.v 0) "parts" (.lst .z)) .z)))
noncomputable def A3Z:DB:= (.c (.setF ad.D0 (.v 0) "frames" (.lst .z)) (.c (.setF ad.D0 (.v 0) "wanted" (.str "c")) (.c (.setF ad.D0 (.v 0) "whole" .non) .z)))
noncomputable def A0p(A9J A7K A9T A7F:Sp):DB:= (.c (.i (.e (.m .gt (.blt .lenL (.c (.v 0) .z)) (.glo "MOST_BYTES" (.int (600))))) (.c (.r .non) .z) .z) (.c (.set 1 (.f "text_from" A9J (.c (.v 0) .z))) (.c (.i (.e (.m .isN (.v 1) .non)) (.c (.r .non) .z) .z) (.c (.set 2 (.make "Reader" ad.D0 A7K .z)) (.c (.fr (.name 3) (.list (.f "pieces_of" A9T (.c (.v 1) .z))) (.c (.i (.not (.e (.f "take_piece" A7F (.c (.v 2) (.c (.v 3) .z))))) (.c (.r .non) .z) .z) .z)) (.c (.r (.g ad.D0 (.v 2) "whole")) .z))))))
noncomputable def A7n:DB:= (.c (.r (.lc [("sign",1)] 1 (.str (.g ad.A8 (.v 0) "text")) .z (.blt .ord (.c (.v 1) .z)))) .z)
noncomputable def A5h:DB:= (.c (.set 1 (.blt .dict (.c (.lc [("sign",3)] 3 (.str (.glo "SIGNS" (.str "(),-0123456789ABCDabcdefghijklmnopqrstuvwxyz"))) .z (.tup (.c (.blt .ord (.c (.v 3) .z)) (.c (.v 3) .z)))) .z))) (.c (.setLc 2 [("number",4)] 4 (.list (.v 0)) (.one (.e (.inD (.v 4) (.v 1)))) (.ixD (.v 1) (.v 4))) (.c (.i (.e (.m .lt (.blt .lenL (.c (.v 2) .z)) (.blt .lenL (.c (.v 0) .z)))) (.c (.r .non) .z) .z) (.c (.r (.join (.str "") (.v 2))) .z))))
noncomputable def A5m:DB:= (.c (.set 1 (.lst .z)) (.c (.set 2 (.int 0)) (.c (.fr (.two 3 4) (.enums (.v 0)) (.c (.i (.e (.inG "MARKS" ad.B3d [.str "(",.str ",",.str ")"] (.v 4))) (.c (.i (.e (.m .lt (.v 2) (.v 3))) (.c (.expr (.mt .append (.v 1) (.sl .str (.v 0) (.yes (.v 2)) (.yes (.v 3))))) .z) .z) (.c (.expr (.mt .append (.v 1) (.v 4))) (.c (.set 2 (.bin .add (.v 3) (.int 1))) .z))) .z) .z)) (.c (.i (.e (.m .lt (.v 2) (.blt .lenS (.c (.v 0) .z)))) (.c (.expr (.mt .append (.v 1) (.sl .str (.v 0) (.yes (.v 2)) .no))) .z) .z) (.c (.r (.v 1)) .z)))))
noncomputable def Z6(A9P A5y A9W A53 A1G:Sp):DB:= (.c (.i (.e (.m .eq (.g ad.D0 (.v 0) "wanted") (.str ""))) (.c (.r (.f "take_mark" A9P (.c (.v 0) (.c (.v 1) .z)))) .z) .z) (.c (.i (.e (.m .eq (.g ad.D0 (.v 0) "wanted") (.str "("))) (.c (.setF ad.D0 (.v 0) "wanted" (.ix .str (.g ad.K4 (.ix .list (.g ad.D0 (.v 0) "frames") (.neg (.int 1))) "wanted") (.int 0))) (.c (.r (.m .eq (.v 1) (.str "("))) .z)) .z) (.c (.set 2 (.f "parts_wanted" A5y (.c (.g ad.D0 (.v 0) "wanted") (.c (.v 1) .z)))) (.c (.i (.e (.m .ne (.v 2) (.str ""))) (.c (.expr (.mt .append (.g ad.D0 (.v 0) "frames") (.make "Frame" ad.K4 A9W (.c (.v 1) (.c (.v 2) .z))))) (.c (.setF ad.D0 (.v 0) "wanted" (.str "(")) (.c (.r (.bl true)) .z))) .z) (.c (.set 3 (.f "single_part" A53 (.c (.g ad.D0 (.v 0) "wanted") (.c (.v 1) .z)))) (.c (.i (.e (.m .isN (.v 3) .non)) (.c (.r (.bl false)) .z) .z) (.c (.expr (.f "add_part" A1G (.c (.v 0) (.c (.v 3) .z)))) (.c (.r (.bl true)) .z))))))))
noncomputable def Y0(A1G C4:Sp):DB:= (.c (.i (.e (.m .eq (.blt .lenL (.c (.g ad.D0 (.v 0) "frames") .z)) (.int 0))) (.c (.r (.bl false)) .z) .z) (.c (.set 2 (.ix .list (.g ad.D0 (.v 0) "frames") (.neg (.int 1)))) (.c (.set 3 (.blt .lenL (.c (.g ad.K4 (.v 2) "parts") .z))) (.c (.i (.e (.m .lt (.v 3) (.blt .lenS (.c (.g ad.K4 (.v 2) "wanted") .z)))) (.c (.setF ad.D0 (.v 0) "wanted" (.ix .str (.g ad.K4 (.v 2) "wanted") (.v 3))) (.c (.r (.m .eq (.v 1) (.str ","))) .z)) .z) (.c (.i (.e (.m .ne (.v 1) (.str ")"))) (.c (.r (.bl false)) .z) .z) (.c (.expr (.pop (.g ad.D0 (.v 0) "frames"))) (.c (.expr (.f "add_part" A1G (.c (.v 0) (.c (.f "joined" C4 (.c (.g ad.K4 (.v 2) "word") (.c (.blt .tuple (.c (.g ad.K4 (.v 2) "parts") .z)) .z))) .z)))) (.c (.r (.bl true)) .z))))))))
noncomputable def A7o:DB:= (.c (.setF ad.D0 (.v 0) "wanted" (.str "")) (.c (.i (.e (.m .eq (.blt .lenL (.c (.g ad.D0 (.v 0) "frames") .z)) (.int 0))) (.c (.setF ad.D0 (.v 0) "whole" (.v 1)) .z) (.c (.expr (.mt .append (.g ad.K4 (.ix .list (.g ad.D0 (.v 0) "frames") (.neg (.int 1))) "parts") (.v 1))) .z)) .z))
noncomputable def F9(C4 A9I A9U A3q G0 Z8 A1E:Sp):DB:= (.c (.i (.bool true (.c (.e (.m .eq (.v 0) (.str "c"))) (.one (.e (.m .eq (.v 1) (.str "nothing")))))) (.c (.r (.f "joined" C4 (.c (.str "nothing") (.c (.tup .z) .z)))) .z) .z) (.c (.i (.bool true (.c (.e (.m .eq (.v 0) (.str "u"))) (.one (.e (.inG "UNITS" ad.A25 [.str "A",.str "B",.str "C",.str "D"] (.v 1)))))) (.c (.r (.f "unit_part" A9I (.c (.indexG "UNITS" ad.A25 ["A","B","C","D"] (.v 1)) .z))) .z) .z) (.c (.i (.bool true (.c (.e (.m .eq (.v 0) (.str "x"))) (.one (.e (.inG "NAMES" ad.A1O [.str "a",.str "b",.str "c",.str "d",.str "e",.str "f",.str "g",.str "h"] (.v 1)))))) (.c (.r (.f "name_part" A9U (.c (.indexG "NAMES" ad.A1O ["a","b","c","d","e","f","g","h"] (.v 1)) .z))) .z) .z) (.c (.i (.bool true (.c (.e (.m .eq (.v 0) (.str "x"))) (.one (.e (.f "is_number" A3q (.c (.v 1) .z)))))) (.c (.r (.f "number_part" G0 (.c (.blt .int (.c (.v 1) .z)) .z))) .z) .z) (.c (.i (.bool true (.c (.e (.m .eq (.v 0) (.str "d"))) (.c (.e (.f "is_number" A3q (.c (.v 1) .z))) (.one (.e (.f "is_day" Z8 (.c (.blt .int (.c (.v 1) .z)) .z))))))) (.c (.r (.f "day_part" A1E (.c (.blt .int (.c (.v 1) .z)) .z))) .z) .z) (.c (.r .non) .z))))))
noncomputable def A19:DB:= (.c (.set 1 (.ife (.e (.starts (.v 0) (.str "-"))) (.sl .str (.v 0) (.yes (.int 1)) .no) (.v 0))) (.c (.i (.bool false (.c (.not (.e (.isdig (.v 1)))) (.one (.e (.m .gt (.blt .lenS (.c (.v 1) .z)) (.glo "MOST_DIGITS" (.int (9)))))))) (.c (.r (.bl false)) .z) .z) (.c (.r (.bool false (.c (.m .eq (.v 0) (.str "0")) (.c (.not (.starts (.v 1) (.str "0"))) .z)))) .z)))
noncomputable def A3Y(A7G:Sp):DB:= (.c (.i (.bool false (.c (.e (.m .lt (.v 1) (.glo "FEWEST_PARTIES" (.int (2))))) (.one (.e (.m .gt (.v 1) (.glo "MOST_PARTIES" (.int (6)))))))) (.c (.r (.lst (.c (.glo "WRONG" (.int (-22))) .z))) .z) .z) (.c (.expr (.f "start_anew" A7G (.c (.v 0) (.c (.v 1) .z)))) (.c (.r (.lst (.c (.int 0) .z))) .z)))
noncomputable def Q6(C5 F4 X7 X4 L1 D1:Sp):DB:= (.c (.i (.not (.e (.f "has_promise" C5 (.c (.v 0) (.c (.v 3) .z))))) (.c (.r (.lst (.c (.glo "NO_SUCH" (.int (-2))) .z))) .z) .z) (.c (.set 4 (.g ad.B9 (.v 0) "now")) (.c (.i (.bool false (.c (.e (.m .ge (.v 1) (.g ad.A7 (.v 4) "parties"))) (.c (.e (.m .ge (.v 2) (.g ad.A7 (.v 4) "parties"))) (.one (.e (.m .eq (.v 1) (.v 2))))))) (.c (.r (.lst (.c (.glo "WRONG" (.int (-22))) .z))) .z) .z) (.c (.set 5 (.blt .lenL (.c (.g ad.A7 (.v 4) "deals") .z))) (.c (.i (.e (.m .ge (.v 5) (.glo "MOST_DEALS" (.int (16))))) (.c (.r (.lst (.c (.glo "FULL" (.int (-28))) .z))) .z) .z) (.c (.set 6 (.f "copy_of" F4 (.c (.v 4) .z))) (.c (.expr (.mt .append (.g ad.A7 (.v 6) "deals") (.make "Deal" ad.G1 X7 (.c (.v 1) (.c (.v 2) (.c (.g ad.A7 (.v 4) "day") (.c .non (.c (.bl false) .z)))))))) (.c (.i (.not (.e (.f "work_out" X4 (.c (.v 6) (.c (.lst (.c (.make "Item" ad.B6 L1 (.c (.v 5) (.c (.v 1) (.c (.v 2) (.c (.int 1) (.c (.ix .list (.g ad.A7 (.v 4) "shelf") (.v 3)) .z)))))) .z)) .z))))) (.c (.r (.lst (.c (.glo "TOO_MUCH" (.int (-75))) .z))) .z) .z) (.c (.expr (.f "keep_change" D1 (.c (.v 0) (.c (.v 6) .z)))) (.c (.r (.lst (.c (.v 5) .z))) .z))))))))))
noncomputable def A17(X6:Sp):DB:= (.c (.i (.not (.e (.f "has_deal" X6 (.c (.v 0) (.c (.v 1) .z))))) (.c (.r (.lst (.c (.glo "NO_SUCH" (.int (-2))) .z))) .z) .z) (.c (.set 2 (.ix .list (.g ad.A7 (.g ad.B9 (.v 0) "now") "deals") (.v 1))) (.c (.setLc 3 [("item",4)] 4 (.list (.g ad.A7 (.g ad.B9 (.v 0) "now") "pending")) (.one (.e (.m .eq (.g ad.B6 (.v 4) "deal") (.v 1)))) (.v 4)) (.c (.r (.lst (.c (.ife (.e (.g ad.G1 (.v 2) "over")) (.int 1) (.int 0)) (.c (.g ad.G1 (.v 2) "holder") (.c (.g ad.G1 (.v 2) "other") (.c (.g ad.G1 (.v 2) "day") (.c (.blt .lenL (.c (.v 3) .z)) .z))))))) .z))))
noncomputable def A3T:DB:= (.c (.setLc 1 [("item",2)] 2 (.list (.g ad.A7 (.g ad.B9 (.v 0) "now") "pending")) .z (.g ad.B6 (.v 2) "number")) (.c (.r (.bin .cat (.lst (.c (.blt .lenL (.c (.v 1) .z)) .z)) (.v 1))) .z))
noncomputable def A5j(U6 A1F:Sp):DB:= (.c (.set 2 (.f "find_item" U6 (.c (.v 0) (.c (.v 1) .z)))) (.c (.i (.e (.m .isN (.v 2) .non)) (.c (.r (.lst (.c (.glo "NO_SUCH" (.int (-2))) .z))) .z) .z) (.c (.r (.bin .cat (.lst (.c (.g ad.B6 (.v 2) "deal") (.c (.g ad.B6 (.v 2) "holder") (.c (.g ad.B6 (.v 2) "other") (.c (.g ad.B6 (.v 2) "times") .z))))) (.f "bytes_of" A1F (.c (.g ad.B6 (.v 2) "promise") .z)))) .z)))
noncomputable def A9n:DB:= (.c (.r (.bool false (.c (.m .eq (.v 1) (.g ad.G1 (.v 0) "holder")) (.c (.m .eq (.v 1) (.g ad.G1 (.v 0) "other")) .z)))) .z)
noncomputable def W7(X6 A05 F4 X7 X5 A7E D1:Sp):DB:= (.c (.i (.not (.e (.f "has_deal" X6 (.c (.v 0) (.c (.v 2) .z))))) (.c (.r (.lst (.c (.glo "NO_SUCH" (.int (-2))) .z))) .z) .z) (.c (.i (.e (.m .ge (.v 3) (.g ad.A7 (.g ad.B9 (.v 0) "now") "parties"))) (.c (.r (.lst (.c (.glo "WRONG" (.int (-22))) .z))) .z) .z) (.c (.set 4 (.ix .list (.g ad.A7 (.g ad.B9 (.v 0) "now") "deals") (.v 2))) (.c (.i (.not (.e (.f "is_side" A05 (.c (.v 4) (.c (.v 1) .z))))) (.c (.r (.lst (.c (.glo "NOT_THEIRS" (.int (-1))) .z))) .z) .z) (.c (.i (.e (.f "is_side" A05 (.c (.v 4) (.c (.v 3) .z)))) (.c (.r (.lst (.c (.glo "ALREADY" (.int (-17))) .z))) .z) .z) (.c (.i (.e (.g ad.G1 (.v 4) "over")) (.c (.r (.lst (.c (.glo "OUT_OF_PLACE" (.int (-16))) .z))) .z) .z) (.c (.set 5 (.f "copy_of" F4 (.c (.g ad.B9 (.v 0) "now") .z))) (.c (.setI (.g ad.A7 (.v 5) "deals") (.v 2) (.make "Deal" ad.G1 X7 (.c (.f "stand_in" X5 (.c (.g ad.G1 (.v 4) "holder") (.c (.v 1) (.c (.v 3) .z)))) (.c (.f "stand_in" X5 (.c (.g ad.G1 (.v 4) "other") (.c (.v 1) (.c (.v 3) .z)))) (.c (.g ad.G1 (.v 4) "day") (.c .non (.c (.bl false) .z))))))) (.c (.setF ad.A7 (.v 5) "pending" (.lc [("item",6)] 6 (.list (.g ad.A7 (.v 5) "pending")) .z (.f "taken_over" A7E (.c (.v 6) (.c (.v 2) (.c (.v 1) (.c (.v 3) .z))))))) (.c (.expr (.f "keep_change" D1 (.c (.v 0) (.c (.v 5) .z)))) (.c (.r (.lst (.c (.int 0) .z))) .z)))))))))))
noncomputable def O0:DB:= (.c (.r (.ife (.e (.m .eq (.v 0) (.v 1))) (.v 2) (.v 0))) .z)
noncomputable def R7(A5z X5:Sp):DB:= (.c (.i (.e (.m .ne (.g ad.B6 (.v 0) "deal") (.v 1))) (.c (.r (.v 0)) .z) .z) (.c (.r (.f "item_between" A5z (.c (.v 0) (.c (.f "stand_in" X5 (.c (.g ad.B6 (.v 0) "holder") (.c (.v 2) (.c (.v 3) .z)))) (.c (.f "stand_in" X5 (.c (.g ad.B6 (.v 0) "other") (.c (.v 2) (.c (.v 3) .z)))) .z))))) .z))
noncomputable def A0F(X6 A05 F4 X7 D1:Sp):DB:= (.c (.i (.not (.e (.f "has_deal" X6 (.c (.v 0) (.c (.v 2) .z))))) (.c (.r (.lst (.c (.glo "NO_SUCH" (.int (-2))) .z))) .z) .z) (.c (.set 3 (.ix .list (.g ad.A7 (.g ad.B9 (.v 0) "now") "deals") (.v 2))) (.c (.i (.not (.e (.f "is_side" A05 (.c (.v 3) (.c (.v 1) .z))))) (.c (.r (.lst (.c (.glo "NOT_THEIRS" (.int (-1))) .z))) .z) .z) (.c (.i (.e (.g ad.G1 (.v 3) "over")) (.c (.r (.lst (.c (.glo "OUT_OF_PLACE" (.int (-16))) .z))) .z) .z) (.c (.i (.e (.m .eq (.g ad.G1 (.v 3) "wanting") (.v 1))) (.c (.r (.lst (.c (.glo "ALREADY" (.int (-17))) .z))) .z) .z) (.c (.set 4 (.m .notN (.g ad.G1 (.v 3) "wanting") .non)) (.c (.set 5 (.f "copy_of" F4 (.c (.g ad.B9 (.v 0) "now") .z))) (.c (.setI (.g ad.A7 (.v 5) "deals") (.v 2) (.make "Deal" ad.G1 X7 (.c (.g ad.G1 (.v 3) "holder") (.c (.g ad.G1 (.v 3) "other") (.c (.g ad.G1 (.v 3) "day") (.c (.v 1) (.c (.v 4) .z))))))) (.c (.i (.e (.v 4)) (.c (.setF ad.A7 (.v 5) "pending" (.lc [("item",6)] 6 (.list (.g ad.A7 (.v 5) "pending")) (.one (.e (.m .ne (.g ad.B6 (.v 6) "deal") (.v 2)))) (.v 6))) .z) .z) (.c (.expr (.f "keep_change" D1 (.c (.v 0) (.c (.v 5) .z)))) (.c (.r (.lst (.c (.ife (.e (.v 4)) (.int 1) (.int 0)) .z))) .z)))))))))))
noncomputable def A5i:DB:= (.c (.r (.lst (.c (.blt .lenL (.c (.g ad.A7 (.g ad.B9 (.v 0) "now") "payments") .z)) .z))) .z)
noncomputable def A7c:DB:= (.c (.i (.e (.m .ge (.v 1) (.blt .lenL (.c (.g ad.A7 (.g ad.B9 (.v 0) "now") "payments") .z)))) (.c (.r (.lst (.c (.glo "NO_SUCH" (.int (-2))) .z))) .z) .z) (.c (.set 2 (.ix .list (.g ad.A7 (.g ad.B9 (.v 0) "now") "payments") (.v 1))) (.c (.r (.lst (.c (.g ad.C0 (.v 2) "day") (.c (.g ad.C0 (.v 2) "deal") (.c (.g ad.C0 (.v 2) "giver") (.c (.g ad.C0 (.v 2) "taker") (.c (.g ad.C0 (.v 2) "unit") (.c (.g ad.C0 (.v 2) "amount") .z)))))))) .z)))
noncomputable def A0o(A56:Sp):DB:= (.c (.i (.e (.m .ge (.v 1) (.g ad.A7 (.g ad.B9 (.v 0) "now") "parties"))) (.c (.r (.lst (.c (.glo "WRONG" (.int (-22))) .z))) .z) .z) (.c (.r (.bin .cat (.lst (.c (.int 0) .z)) (.f "gains" A56 (.c (.g ad.A7 (.g ad.B9 (.v 0) "now") "payments") (.c (.v 1) .z))))) .z))
noncomputable def A3g(A56:Sp):DB:= (.c (.i (.e (.m .gt (.v 1) (.g ad.A7 (.g ad.B9 (.v 0) "now") "day"))) (.c (.r (.lst (.c (.glo "WRONG" (.int (-22))) .z))) .z) .z) (.c (.setLc 2 [("payment",5)] 5 (.list (.g ad.A7 (.g ad.B9 (.v 0) "now") "payments")) (.one (.e (.m .eq (.g ad.C0 (.v 5) "day") (.v 1)))) (.v 5)) (.c (.set 3 (.lst (.c (.int 0) .z))) (.c (.fr (.name 4) (.range (.g ad.A7 (.g ad.B9 (.v 0) "now") "parties")) (.c (.expr (.mt .extL (.v 3) (.f "gains" A56 (.c (.v 2) (.c (.v 4) .z))))) .z)) (.c (.r (.v 3)) .z)))))
noncomputable def B4M:DB:= (.c (.setLc 2 [("unit",4)] 4 (.tupG "UNITS" ad.A25 [.str "A",.str "B",.str "C",.str "D"]) .z (.int 0)) (.c (.fr (.name 3) (.list (.v 0)) (.c (.i (.e (.m .eq (.g ad.C0 (.v 3) "taker") (.v 1))) (.c (.setI (.v 2) (.g ad.C0 (.v 3) "unit") (.bin .add (.ix .list (.v 2) (.g ad.C0 (.v 3) "unit")) (.g ad.C0 (.v 3) "amount"))) .z) .z) (.c (.i (.e (.m .eq (.g ad.C0 (.v 3) "giver") (.v 1))) (.c (.setI (.v 2) (.g ad.C0 (.v 3) "unit") (.bin .sub (.ix .list (.v 2) (.g ad.C0 (.v 3) "unit")) (.g ad.C0 (.v 3) "amount"))) .z) .z) .z))) (.c (.r (.v 2)) .z)))
noncomputable def B2r(A0b A7B:Sp):DB:= (.c (.set 1 (.lst .z)) (.c (.fr (.name 2) (.list (.f "inner_first" A0b (.c (.v 0) .z))) (.c (.i (.e (.m .eq (.blt .lenT (.c (.g ad.A8 (.v 2) "parts") .z)) (.int 0))) (.c (.expr (.mt .append (.v 1) (.v 2))) .z) (.c (.set 3 (.bin .sub (.blt .lenL (.c (.v 1) .z)) (.blt .lenT (.c (.g ad.A8 (.v 2) "parts") .z)))) (.c (.set 4 (.blt .tuple (.c (.sl .list (.v 1) (.yes (.v 3)) .no) .z))) (.c (.set 1 (.sl .list (.v 1) .no (.yes (.v 3)))) (.c (.expr (.mt .append (.v 1) (.f "tidied_one" A7B (.c (.g ad.A8 (.v 2) "word") (.c (.v 4) .z))))) .z))))) .z)) (.c (.r (.pop (.v 1))) .z)))
noncomputable def C2(A4b A52 F6 A5v C4:Sp):DB:= (.c (.i (.e (.inK "AMOUNTS" ad.A3A [(.inr "add",.str "xx"),(.inr "sub",.str "xx"),(.inr "mul",.str "xx")] (.v 0))) (.c (.r (.f "tidied_amount" A4b (.c (.v 0) (.c (.v 1) .z)))) .z) .z) (.c (.i (.bool true (.c (.e (.m .eq (.v 0) (.str "not"))) (.one (.e (.m .eq (.g ad.A8 (.ix .tup (.v 1) (.int 0)) "word") (.str "not")))))) (.c (.r (.ix .tup (.g ad.A8 (.ix .tup (.v 1) (.int 0)) "parts") (.int 0))) .z) .z) (.c (.i (.e (.m .eq (.v 0) (.str "both"))) (.c (.r (.f "tidied_both" A52 (.c (.v 1) .z))) .z) .z) (.c (.i (.bool true (.c (.e (.m .eq (.v 0) (.str "or"))) (.c (.e (.f "is_nothing" F6 (.c (.ix .tup (.v 1) (.int 0)) .z))) (.one (.e (.f "is_nothing" F6 (.c (.ix .tup (.v 1) (.int 1)) .z))))))) (.c (.r (.ix .tup (.v 1) (.int 0))) .z) .z) (.c (.i (.bool true (.c (.e (.inG "HOLLOW" ad.A97 [.str "turn",.str "times",.str "at",.str "when",.str "any"] (.v 0))) (.one (.e (.f "is_nothing" F6 (.c (.ix .tup (.v 1) (.neg (.int 1))) .z)))))) (.c (.r (.ix .tup (.v 1) (.neg (.int 1)))) .z) .z) (.c (.i (.bool true (.c (.e (.m .eq (.v 0) (.str "turn"))) (.one (.e (.m .eq (.g ad.A8 (.ix .tup (.v 1) (.int 0)) "word") (.str "turn")))))) (.c (.r (.ix .tup (.g ad.A8 (.ix .tup (.v 1) (.int 0)) "parts") (.int 0))) .z) .z) (.c (.i (.e (.m .eq (.v 0) (.str "times"))) (.c (.r (.f "tidied_times" A5v (.c (.v 1) .z))) .z) .z) (.c (.i (.bool true (.c (.e (.m .eq (.v 0) (.str "if"))) (.one (.e (.m .eq (.g ad.A8 (.ix .tup (.v 1) (.int 1)) "text") (.g ad.A8 (.ix .tup (.v 1) (.int 2)) "text")))))) (.c (.r (.ix .tup (.v 1) (.int 1))) .z) .z) (.c (.i (.bool true (.c (.e (.m .eq (.v 0) (.str "at"))) (.c (.e (.m .eq (.g ad.A8 (.ix .tup (.v 1) (.int 1)) "word") (.str "at"))) (.one (.e (.m .lt (.g ad.A8 (.ix .tup (.g ad.A8 (.ix .tup (.v 1) (.int 1)) "parts") (.int 0)) "value") (.g ad.A8 (.ix .tup (.v 1) (.int 0)) "value"))))))) (.c (.r (.f "joined" C4 (.c (.str "nothing") (.c (.tup .z) .z)))) .z) .z) (.c (.r (.f "joined" C4 (.c (.v 0) (.c (.v 1) .z)))) .z))))))))))
noncomputable def E3:DB:= (.c (.r (.m .eq (.g ad.A8 (.v 0) "word") (.str "nothing"))) .z)
noncomputable def O6(T9 K9 G0 C4:Sp):DB:= (.c (.i (.bool true (.c (.e (.m .eq (.g ad.A8 (.ix .tup (.v 1) (.int 0)) "word") (.str "number"))) (.one (.e (.m .eq (.g ad.A8 (.ix .tup (.v 1) (.int 1)) "word") (.str "number")))))) (.c (.set 2 (.f "combined" T9 (.c (.v 0) (.c (.g ad.A8 (.ix .tup (.v 1) (.int 0)) "value") (.c (.g ad.A8 (.ix .tup (.v 1) (.int 1)) "value") .z))))) (.c (.i (.e (.f "is_short" K9 (.c (.v 2) .z))) (.c (.r (.f "number_part" G0 (.c (.v 2) .z))) .z) .z) .z)) .z) (.c (.r (.f "joined" C4 (.c (.v 0) (.c (.v 1) .z)))) .z))
noncomputable def A0D(F6 C4:Sp):DB:= (.c (.i (.e (.f "is_nothing" F6 (.c (.ix .tup (.v 0) (.int 0)) .z))) (.c (.r (.ix .tup (.v 0) (.int 1))) .z) .z) (.c (.i (.e (.f "is_nothing" F6 (.c (.ix .tup (.v 0) (.int 1)) .z))) (.c (.r (.ix .tup (.v 0) (.int 0))) .z) .z) (.c (.r (.f "joined" C4 (.c (.str "both") (.c (.v 0) .z)))) .z)))
noncomputable def A0n(C4:Sp):DB:= (.c (.i (.e (.m .eq (.g ad.A8 (.ix .tup (.v 0) (.int 0)) "text") (.str "0"))) (.c (.r (.f "joined" C4 (.c (.str "nothing") (.c (.tup .z) .z)))) .z) .z) (.c (.i (.e (.m .eq (.g ad.A8 (.ix .tup (.v 0) (.int 0)) "text") (.str "1"))) (.c (.r (.ix .tup (.v 0) (.int 1))) .z) .z) (.c (.r (.f "joined" C4 (.c (.str "times") (.c (.v 0) .z)))) .z)))
noncomputable def A30:DB:= (.c (.setF ad.D5 (.v 0) "promise" (.v 1)) (.c (.setF ad.D5 (.v 0) "times" (.v 2)) (.c (.setF ad.D5 (.v 0) "day" (.v 3)) .z)))
noncomputable def B4L(F7 B07:Sp):DB:= (.c (.set 3 (.lst (.c (.make "Having" ad.D5 F7 (.c (.v 0) (.c (.int 1) (.c (.v 1) .z)))) .z))) (.c (.set 4 (.lst .z)) (.c (.whl (.e (.m .gt (.blt .lenL (.c (.v 3) .z)) (.int 0))) (.c (.set 5 (.pop (.v 3))) (.c (.i (.e (.m .ne (.g ad.A8 (.g ad.D5 (.v 5) "promise") "word") (.str "one"))) (.c (.expr (.mt .extL (.v 3) (.lrev (.f "comes_of" B07 (.c (.v 5) (.c (.v 2) .z)))))) .z) (.c (.i (.e (.m .ne (.g ad.D5 (.v 5) "times") (.int 0))) (.c (.expr (.mt .append (.v 4) (.tup (.c (.g ad.D5 (.v 5) "day") (.c (.g ad.A8 (.ix .tup (.g ad.A8 (.g ad.D5 (.v 5) "promise") "parts") (.int 0)) "value") (.c (.g ad.D5 (.v 5) "times") .z)))))) .z) .z) .z)) .z))) (.c (.r (.v 4)) .z))))
noncomputable def G5(F7 N9:Sp):DB:= (.c (.set 2 (.g ad.A8 (.g ad.D5 (.v 0) "promise") "word")) (.c (.set 3 (.g ad.A8 (.g ad.D5 (.v 0) "promise") "parts")) (.c (.set 4 (.g ad.D5 (.v 0) "times")) (.c (.set 5 (.g ad.D5 (.v 0) "day")) (.c (.i (.e (.m .eq (.v 2) (.str "both"))) (.c (.r (.lst (.c (.make "Having" ad.D5 F7 (.c (.ix .tup (.v 3) (.int 0)) (.c (.v 4) (.c (.v 5) .z)))) (.c (.make "Having" ad.D5 F7 (.c (.ix .tup (.v 3) (.int 1)) (.c (.v 4) (.c (.v 5) .z)))) .z)))) .z) .z) (.c (.i (.e (.m .eq (.v 2) (.str "turn"))) (.c (.r (.lst (.c (.make "Having" ad.D5 F7 (.c (.ix .tup (.v 3) (.int 0)) (.c (.neg (.v 4)) (.c (.v 5) .z)))) .z))) .z) .z) (.c (.i (.e (.m .eq (.v 2) (.str "times"))) (.c (.r (.lst (.c (.make "Having" ad.D5 F7 (.c (.ix .tup (.v 3) (.int 1)) (.c (.bin .mul (.v 4) (.f "result_of" N9 (.c (.ix .tup (.v 3) (.int 0)) (.c (.v 1) .z)))) (.c (.v 5) .z)))) .z))) .z) .z) (.c (.i (.e (.m .eq (.v 2) (.str "if"))) (.c (.r (.lst (.c (.make "Having" ad.D5 F7 (.c (.ife (.e (.f "result_of" N9 (.c (.ix .tup (.v 3) (.int 0)) (.c (.v 1) .z)))) (.ix .tup (.v 3) (.int 1)) (.ix .tup (.v 3) (.int 2))) (.c (.v 4) (.c (.v 5) .z)))) .z))) .z) .z) (.c (.i (.bool true (.c (.e (.m .eq (.v 2) (.str "at"))) (.one (.e (.m .le (.v 5) (.g ad.A8 (.ix .tup (.v 3) (.int 0)) "value")))))) (.c (.r (.lst (.c (.make "Having" ad.D5 F7 (.c (.ix .tup (.v 3) (.int 1)) (.c (.v 4) (.c (.g ad.A8 (.ix .tup (.v 3) (.int 0)) "value") .z)))) .z))) .z) .z) (.c (.i (.bool true (.c (.e (.m .eq (.v 2) (.str "when"))) (.c (.e (.m .le (.v 5) (.g ad.A8 (.ix .tup (.v 3) (.int 0)) "value"))) (.one (.e (.f "result_of" N9 (.c (.ix .tup (.v 3) (.int 1)) (.c (.v 1) .z)))))))) (.c (.r (.lst (.c (.make "Having" ad.D5 F7 (.c (.ix .tup (.v 3) (.int 2)) (.c (.v 4) (.c (.v 5) .z)))) .z))) .z) .z) (.c (.r (.lst .z)) .z)))))))))))
noncomputable def A5l(A5x A0N:Sp):DB:= (.c (.set 2 (.f "read_promise" A5x (.c (.v 1) .z))) (.c (.i (.e (.m .isN (.v 2) .non)) (.c (.r (.lst (.c (.glo "NO_TEXT" (.int (-71))) .z))) .z) .z) (.c (.r (.f "shelve" A0N (.c (.v 0) (.c (.v 2) .z)))) .z)))
noncomputable def A16(C5 A1F:Sp):DB:= (.c (.i (.not (.e (.f "has_promise" C5 (.c (.v 0) (.c (.v 1) .z))))) (.c (.r (.lst (.c (.glo "NO_SUCH" (.int (-2))) .z))) .z) .z) (.c (.set 2 (.f "bytes_of" A1F (.c (.ix .list (.g ad.A7 (.g ad.B9 (.v 0) "now") "shelf") (.v 1)) .z))) (.c (.r (.bin .cat (.lst (.c (.blt .lenL (.c (.v 2) .z)) .z)) (.v 2))) .z)))
noncomputable def A1b(C5:Sp):DB:= (.c (.i (.not (.e (.f "has_promise" C5 (.c (.v 0) (.c (.v 1) .z))))) (.c (.r (.lst (.c (.glo "NO_SUCH" (.int (-2))) .z))) .z) .z) (.c (.set 2 (.ix .list (.g ad.A7 (.g ad.B9 (.v 0) "now") "shelf") (.v 1))) (.c (.r (.lst (.c (.g ad.A8 (.v 2) "size") (.c (.g ad.A8 (.v 2) "last") (.c (.g ad.A8 (.v 2) "names") (.c (.ife (.e (.g ad.A8 (.v 2) "plain")) (.int 1) (.int 0)) .z)))))) .z)))
noncomputable def T2(C5 A2Y A0N B4Y:Sp):DB:= (.c (.i (.not (.e (.f "has_promise" C5 (.c (.v 0) (.c (.v 1) .z))))) (.c (.r (.lst (.c (.glo "NO_SUCH" (.int (-2))) .z))) .z) .z) (.c (.i (.e (.f "is_full" A2Y (.c (.v 0) .z))) (.c (.r (.lst (.c (.glo "FULL" (.int (-28))) .z))) .z) .z) (.c (.r (.f "shelve" A0N (.c (.v 0) (.c (.f "tidied" B4Y (.c (.ix .list (.g ad.A7 (.g ad.B9 (.v 0) "now") "shelf") (.v 1)) .z)) .z)))) .z)))
noncomputable def A0y(C5:Sp):DB:= (.c (.i (.bool false (.c (.not (.e (.f "has_promise" C5 (.c (.v 0) (.c (.v 1) .z))))) (.one (.not (.e (.f "has_promise" C5 (.c (.v 0) (.c (.v 2) .z)))))))) (.c (.r (.lst (.c (.glo "NO_SUCH" (.int (-2))) .z))) .z) .z) (.c (.r (.lst (.c (.ife (.e (.m .eq (.g ad.A8 (.ix .list (.g ad.A7 (.g ad.B9 (.v 0) "now") "shelf") (.v 1)) "text") (.g ad.A8 (.ix .list (.g ad.A7 (.g ad.B9 (.v 0) "now") "shelf") (.v 2)) "text"))) (.int 1) (.int 0)) .z))) .z))
noncomputable def E7(C5 B08 B9g A0N:Sp):DB:= (.c (.i (.bool false (.c (.not (.e (.f "has_promise" C5 (.c (.v 0) (.c (.v 2) .z))))) (.one (.bool true (.c (.e (.m .lt (.v 1) (.int 2))) (.one (.not (.e (.f "has_promise" C5 (.c (.v 0) (.c (.v 3) .z))))))))))) (.c (.r (.lst (.c (.glo "NO_SUCH" (.int (-2))) .z))) .z) .z) (.c (.i (.not (.e (.f "can_make" B08 (.c (.v 1) (.c (.v 4) .z))))) (.c (.r (.lst (.c (.glo "WRONG" (.int (-22))) .z))) .z) .z) (.c (.set 5 (.f "made" B9g (.c (.g ad.A7 (.g ad.B9 (.v 0) "now") "shelf") (.c (.v 1) (.c (.v 2) (.c (.v 3) (.c (.v 4) .z))))))) (.c (.i (.e (.m .gt (.blt .lenS (.c (.g ad.A8 (.v 5) "text") .z)) (.glo "MOST_BYTES" (.int (600))))) (.c (.r (.lst (.c (.glo "UNFIT" (.int (-33))) .z))) .z) .z) (.c (.r (.f "shelve" A0N (.c (.v 0) (.c (.v 5) .z)))) .z)))))
noncomputable def O2(K9 Z8:Sp):DB:= (.c (.i (.e (.m .ge (.v 0) (.lenG "KINDS" ad.A26 [.str "both",.str "or",.str "turn",.str "times",.str "at",.str "any"]))) (.c (.r (.bl false)) .z) .z) (.c (.i (.e (.m .eq (.ixG "KINDS" ad.A26 [.str "both",.str "or",.str "turn",.str "times",.str "at",.str "any"] (.v 0)) (.str "times"))) (.c (.r (.f "is_short" K9 (.c (.v 1) .z))) .z) .z) (.c (.i (.bool false (.c (.e (.m .eq (.ixG "KINDS" ad.A26 [.str "both",.str "or",.str "turn",.str "times",.str "at",.str "any"] (.v 0)) (.str "at"))) (.one (.e (.m .eq (.ixG "KINDS" ad.A26 [.str "both",.str "or",.str "turn",.str "times",.str "at",.str "any"] (.v 0)) (.str "any")))))) (.c (.r (.f "is_day" Z8 (.c (.v 1) .z))) .z) .z) (.c (.r (.bl true)) .z))))
noncomputable def A3h(C4 G0 A1E:Sp):DB:= (.c (.set 5 (.ixG "KINDS" ad.A26 [.str "both",.str "or",.str "turn",.str "times",.str "at",.str "any"] (.v 1))) (.c (.i (.bool false (.c (.e (.m .eq (.v 5) (.str "both"))) (.one (.e (.m .eq (.v 5) (.str "or")))))) (.c (.r (.f "joined" C4 (.c (.v 5) (.c (.tup (.c (.ix .list (.v 0) (.v 2)) (.c (.ix .list (.v 0) (.v 3)) .z))) .z)))) .z) .z) (.c (.i (.e (.m .eq (.v 5) (.str "turn"))) (.c (.r (.f "joined" C4 (.c (.v 5) (.c (.tup (.c (.ix .list (.v 0) (.v 2)) .z)) .z)))) .z) .z) (.c (.i (.e (.m .eq (.v 5) (.str "times"))) (.c (.r (.f "joined" C4 (.c (.v 5) (.c (.tup (.c (.f "number_part" G0 (.c (.v 4) .z)) (.c (.ix .list (.v 0) (.v 2)) .z))) .z)))) .z) .z) (.c (.r (.f "joined" C4 (.c (.v 5) (.c (.tup (.c (.f "day_part" A1E (.c (.v 4) .z)) (.c (.ix .list (.v 0) (.v 2)) .z))) .z)))) .z)))))
noncomputable def A2p(C5 A0c B6F:Sp):DB:= (.c (.i (.not (.e (.f "has_promise" C5 (.c (.v 0) (.c (.v 1) .z))))) (.c (.r (.lst (.c (.glo "NO_SUCH" (.int (-2))) .z))) .z) .z) (.c (.i (.bool false (.c (.e (.m .gt (.v 2) (.glo "LAST_DAY" (.int (1000))))) (.one (.not (.e (.blt .all (.c (.lc [("value",8)] 8 (.list (.v 3)) .z (.f "can_be_seen" A0c (.c (.v 8) .z))) .z))))))) (.c (.r (.lst (.c (.glo "WRONG" (.int (-22))) .z))) .z) .z) (.c (.set 4 (.ix .list (.g ad.A7 (.g ad.B9 (.v 0) "now") "shelf") (.v 1))) (.c (.i (.not (.e (.g ad.A8 (.v 4) "plain"))) (.c (.r (.lst (.c (.glo "UNFIT" (.int (-33))) .z))) .z) .z) (.c (.set 5 (.f "tried" B6F (.c (.v 4) (.c (.v 2) (.c (.v 3) .z))))) (.c (.set 6 (.lst (.c (.blt .lenL (.c (.v 5) .z)) .z))) (.c (.fr (.name 7) (.list (.v 5)) (.c (.i (.e (.m .gt (.blt .abs (.c (.ix .tup (.v 7) (.int 2)) .z)) (.glo "MOST_AMOUNT" (.int (1000000000000))))) (.c (.r (.lst (.c (.glo "TOO_MUCH" (.int (-75))) .z))) .z) .z) (.c (.expr (.mt .extT (.v 6) (.v 7))) .z))) (.c (.r (.ife (.e (.m .gt (.blt .lenL (.c (.v 5) .z)) (.glo "MOST_PAYMENTS" (.int (400))))) (.lst (.c (.glo "TOO_MUCH" (.int (-75))) .z)) (.v 6))) .z))))))))
noncomputable def A0C:DB:= (.c (.i (.e (.m .eq (.blt .lenL (.c (.g ad.B9 (.v 0) "before") .z)) (.int 0))) (.c (.r (.lst (.c (.glo "NONE_LEFT" (.int (-6))) .z))) .z) .z) (.c (.expr (.mt .append (.g ad.B9 (.v 0) "undone") (.g ad.B9 (.v 0) "now"))) (.c (.setF ad.B9 (.v 0) "now" (.pop (.g ad.B9 (.v 0) "before"))) (.c (.r (.lst (.c (.blt .lenL (.c (.g ad.B9 (.v 0) "before") .z)) .z))) .z))))
noncomputable def A0E:DB:= (.c (.i (.e (.m .eq (.blt .lenL (.c (.g ad.B9 (.v 0) "undone") .z)) (.int 0))) (.c (.r (.lst (.c (.glo "NONE_LEFT" (.int (-6))) .z))) .z) .z) (.c (.expr (.mt .append (.g ad.B9 (.v 0) "before") (.g ad.B9 (.v 0) "now"))) (.c (.setF ad.B9 (.v 0) "now" (.pop (.g ad.B9 (.v 0) "undone"))) (.c (.r (.lst (.c (.blt .lenL (.c (.g ad.B9 (.v 0) "undone") .z)) .z))) .z))))
noncomputable def A7k(A7J:Sp):DB:= (.c (.r (.f "begin_anew" A7J (.c (.v 0) (.c (.ix .list (.v 1) (.int 0)) .z)))) .z)
noncomputable def A9i(A9S:Sp):DB:= (.c (.r (.f "read_text" A9S (.c (.v 0) (.c (.ix .list (.v 1) (.int 0)) .z)))) .z)
noncomputable def A7g(A9K:Sp):DB:= (.c (.r (.f "tell_text" A9K (.c (.v 0) (.c (.ix .list (.v 1) (.int 0)) .z)))) .z)
noncomputable def A7l(A7D:Sp):DB:= (.c (.r (.f "tell_about" A7D (.c (.v 0) (.c (.ix .list (.v 1) (.int 0)) .z)))) .z)
noncomputable def A9d(A4c:Sp):DB:= (.c (.r (.f "shelve_tidied" A4c (.c (.v 0) (.c (.ix .list (.v 1) (.int 0)) .z)))) .z)
noncomputable def A9g(A9L:Sp):DB:= (.c (.r (.f "tell_same" A9L (.c (.v 0) (.c (.ix .list (.v 1) (.int 0)) (.c (.ix .list (.v 1) (.int 1)) .z))))) .z)
noncomputable def A9k(A54:Sp):DB:= (.c (.r (.f "shelve_made" A54 (.c (.v 0) (.c (.ix .list (.v 1) (.int 0)) (.c (.ix .list (.v 1) (.int 1)) (.c (.ix .list (.v 1) (.int 2)) (.c (.ix .list (.v 1) (.int 3)) .z))))))) .z)
noncomputable def A7h(B2R:Sp):DB:= (.c (.r (.f "try_out" B2R (.c (.v 0) (.c (.ix .list (.v 1) (.int 0)) (.c (.ix .list (.v 1) (.int 1)) (.c (.ix .list (.v 1) (.int 2)) .z)))))) .z)
noncomputable def A9f(A9Q:Sp):DB:= (.c (.r (.f "sign_deal" A9Q (.c (.v 0) (.c (.ix .list (.v 1) (.int 0)) (.c (.ix .list (.v 1) (.int 1)) (.c (.ix .list (.v 1) (.int 2)) .z)))))) .z)
noncomputable def A9m(A9O:Sp):DB:= (.c (.r (.f "tell_deal" A9O (.c (.v 0) (.c (.ix .list (.v 1) (.int 0)) .z)))) .z)
def A7i(A7C:Sp):DB:= (.c (.r (.f "tell_items" A7C (.c (.v 0) .z))) .z)
noncomputable def A9l(A9N:Sp):DB:= (.c (.r (.f "tell_item" A9N (.c (.v 0) (.c (.ix .list (.v 1) (.int 0)) .z)))) .z)
noncomputable def B2s(A9R:Sp):DB:= (.c (.r (.f "see_value" A9R (.c (.v 0) (.c (.ix .list (.v 1) (.int 0)) (.c (.ix .list (.v 1) (.int 1)) .z))))) .z)
noncomputable def A5n(A7I:Sp):DB:= (.c (.r (.f "choose_one" A7I (.c (.v 0) (.c (.ix .list (.v 1) (.int 0)) (.c (.ix .list (.v 1) (.int 1)) (.c (.ix .list (.v 1) (.int 2)) .z)))))) .z)
noncomputable def A9e(B06:Sp):DB:= (.c (.r (.f "take_now" B06 (.c (.v 0) (.c (.ix .list (.v 1) (.int 0)) (.c (.ix .list (.v 1) (.int 1)) .z))))) .z)
def A7j(A9V:Sp):DB:= (.c (.r (.f "close_day" A9V (.c (.v 0) .z))) .z)
def B2v(B05:Sp):DB:= (.c (.r (.f "tell_day" B05 (.c (.v 0) .z))) .z)
def A9j(A9M:Sp):DB:= (.c (.r (.f "tell_pays" A9M (.c (.v 0) .z))) .z)
noncomputable def B2t(B03:Sp):DB:= (.c (.r (.f "tell_pay" B03 (.c (.v 0) (.c (.ix .list (.v 1) (.int 0)) .z)))) .z)
noncomputable def A3W(A5w:Sp):DB:= (.c (.r (.f "tell_balance" A5w (.c (.v 0) (.c (.ix .list (.v 1) (.int 0)) .z)))) .z)
noncomputable def B2u(B04:Sp):DB:= (.c (.r (.f "tell_net" B04 (.c (.v 0) (.c (.ix .list (.v 1) (.int 0)) .z)))) .z)
noncomputable def A5p(A58:Sp):DB:= (.c (.r (.f "assign_side" A58 (.c (.v 0) (.c (.ix .list (.v 1) (.int 0)) (.c (.ix .list (.v 1) (.int 1)) (.c (.ix .list (.v 1) (.int 2)) .z)))))) .z)
noncomputable def A5o(A57:Sp):DB:= (.c (.r (.f "cancel_deal" A57 (.c (.v 0) (.c (.ix .list (.v 1) (.int 0)) (.c (.ix .list (.v 1) (.int 1)) .z))))) .z)
def A9c(A51:Sp):DB:= (.c (.r (.f "undo_change" A51 (.c (.v 0) .z))) .z)
def A9h(A55:Sp):DB:= (.c (.r (.f "redo_change" A55 (.c (.v 0) .z))) .z)
noncomputable def A9p(B09:Sp)(fn:Nh->Sp->Prop):DB:= (.c (.set 1 (.make "Desk" ad.B9 B09 .z)) (.c (.set 2 (.lst .z)) (.c (.set 3 (.int 0)) (.c (.whl (.e (.m .lt (.v 3) (.blt .lenF (.c (.v 0) .z)))) (.c (.set 4 (.ix .frz (.v 0) (.v 3))) (.c (.set 5 (.bin .add (.v 3) (.int 1))) (.c (.set 3 (.bin .add (.v 5) (.ixG "WHOLES" ad.A96 [.int 1,.int 0,.int 1,.int 1,.int 1,.int 2,.int 4,.int 2,.int 3,.int 1,.int 0,.int 1,.int 2,.int 3,.int 2,.int 0,.int 0,.int 0,.int 1,.int 1,.int 1,.int 3,.int 2,.int 0,.int 0] (.v 4)))) (.c (.set 6 (.sl .frz (.v 0) (.yes (.v 5)) (.yes (.v 3)))) (.c (.i (.bool false (.c (.e (.m .eq (.v 4) (.glo "READ" (.int (1))))) (.one (.e (.m .eq (.v 4) (.glo "TRIAL" (.int (7)))))))) (.c (.set 5 (.bin .add (.v 3) (.int 1))) (.c (.set 3 (.bin .add (.v 5) (.ix .frz (.v 0) (.v 3)))) (.c (.expr (.mt .append (.v 6) (.sl .frz (.v 0) (.yes (.v 5)) (.yes (.v 3))))) .z))) .z) (.c (.set 7 (.ixG "HANDLERS" ad.A2l (ad.U1.map V.ref) (.v 4))) (.c (.set 8 (.callV 7 fn (.c (.v 1) (.c (.v 6) .z)))) (.c (.expr (.mt .append (.v 2) (.blt .lenL (.c (.v 8) .z)))) (.c (.expr (.mt .extL (.v 2) (.v 8))) .z)))))))))) (.c (.r (.v 2)) .z)))))
noncomputable def tab:List Bk:=[.blt "len",.blt "abs",.blt "max",.blt "ord",.blt "all",.blt "any",.blt "reversed",.blt "enumerate",.blt "range",.blt "str",.blt "int",.blt "list",.blt "tuple",.blt "dict",.glo "FEWEST_PARTIES" (.int (2)),.glo "MOST_PARTIES" (.int (6)),.glo "MOST_SHELVED" (.int (16)),.glo "MOST_DEALS" (.int (16)),.glo "MOST_ITEMS" (.int (48)),.glo "MOST_PAYMENTS" (.int (400)),.glo "MOST_UNDONE" (.int (32)),.glo "MOST_AMOUNT" (.int (1000000000000)),.glo "LAST_DAY" (.int (1000)),.glo "MOST_BYTES" (.int (600)),.glo "MOST_DIGITS" (.int (9)),.glo "MOST_NUMBER" (.int (999999999)),.glo "MOST_SEEN" (.int (1000000)),.glo "NOT_THEIRS" (.int (-1)),.glo "NO_SUCH" (.int (-2)),.glo "NONE_LEFT" (.int (-6)),.glo "OUT_OF_PLACE" (.int (-16)),.glo "ALREADY" (.int (-17)),.glo "WRONG" (.int (-22)),.glo "FULL" (.int (-28)),.glo "UNFIT" (.int (-33)),.glo "UNSEEN" (.int (-61)),.glo "NO_TEXT" (.int (-71)),.glo "TOO_MUCH" (.int (-75)),.dict "PROMISES" ad.A2k [(.inr "nothing",.str ""),(.inr "one",.str "u"),(.inr "both",.str "cc"),(.inr "or",.str "cc"),(.inr "turn",.str "c"),(.inr "times",.str "xc"),(.inr "if",.str "pcc"),(.inr "at",.str "dc"),(.inr "when",.str "dpc"),(.inr "any",.str "dc")],.dict "CONDITIONS" ad.A1P [(.inr "le",.str "xx"),(.inr "lt",.str "xx"),(.inr "not",.str "p"),(.inr "all",.str "pp"),(.inr "some",.str "pp")],.dict "AMOUNTS" ad.A3A [(.inr "add",.str "xx"),(.inr "sub",.str "xx"),(.inr "mul",.str "xx")],.tup "UNITS" ad.A25 [.str "A",.str "B",.str "C",.str "D"],.tup "NAMES" ad.A1O [.str "a",.str "b",.str "c",.str "d",.str "e",.str "f",.str "g",.str "h"],.glo "SIGNS" (.str "(),-0123456789ABCDabcdefghijklmnopqrstuvwxyz"),.tup "MARKS" ad.B3d [.str "(",.str ",",.str ")"],.tup "HOLLOW" ad.A97 [.str "turn",.str "times",.str "at",.str "when",.str "any"],.tup "KINDS" ad.A26 [.str "both",.str "or",.str "turn",.str "times",.str "at",.str "any"],.tup "WHOLES" ad.A96 [.int 1,.int 0,.int 1,.int 1,.int 1,.int 2,.int 4,.int 2,.int 3,.int 1,.int 0,.int 1,.int 2,.int 3,.int 2,.int 0,.int 0,.int 0,.int 1,.int 1,.int 1,.int 3,.int 2,.int 0,.int 0],.glo "READ" (.int (1)),.glo "TRIAL" (.int (7)),.tup "HANDLERS" ad.A2l (ad.U1.map V.ref),.fld ad.G1 "holder",.fld ad.G1 "other",.fld ad.G1 "day",.fld ad.G1 "wanting",.fld ad.G1 "over",.fld ad.B6 "number",.fld ad.B6 "deal",.fld ad.B6 "holder",.fld ad.B6 "other",.fld ad.B6 "times",.fld ad.B6 "promise",.fld ad.B6 "looked",.fld ad.C0 "day",.fld ad.C0 "deal",.fld ad.C0 "giver",.fld ad.C0 "taker",.fld ad.C0 "unit",.fld ad.C0 "amount",.fld ad.A7 "parties",.fld ad.A7 "day",.fld ad.A7 "shelf",.fld ad.A7 "deals",.fld ad.A7 "pending",.fld ad.A7 "numbered",.fld ad.A7 "payments",.fld ad.A7 "seen",.fld ad.A7 "worths",.fld ad.B9 "now",.fld ad.B9 "before",.fld ad.B9 "undone",.fld ad.A8 "word",.fld ad.A8 "parts",.fld ad.A8 "text",.fld ad.A8 "value",.fld ad.A8 "names",.fld ad.A8 "last",.fld ad.A8 "size",.fld ad.A8 "plain",.fld ad.K4 "word",.fld ad.K4 "wanted",.fld ad.K4 "parts",.fld ad.D0 "frames",.fld ad.D0 "wanted",.fld ad.D0 "whole",.fld ad.D5 "promise",.fld ad.D5 "times",.fld ad.D5 "day"]
structure Txt(P:Nk)(w:World)(K:Fg)(mg:MG):Prop where
 lf {W:Wd}{base:Heap}{k:Nat}:In W P w K mg base k->Al W tab
 B9B:B3I K ad.A1O [.str "a",.str "b",.str "c",.str "d",.str "e",.str "f",.str "g",.str "h"]
 B9A:B3I K ad.A25 [.str "A",.str "B",.str "C",.str "D"]
 B8d:B1 K mg "is_day" (E6 14) ["number"]
 B3k:B1 K mg "is_short" (E6 15) ["number"]
 A7Z:B1 K mg "can_be_seen" (E6 16) ["value"]
 A1T:B1 K mg "parts_wanted" (E6 34) ["sort","word"]
 A1U:B1 K mg "item_between" (E6 38) ["item","holder","other"]
 A8Y:B1 K mg "copy_of" (E6 41) ["state"]
 A3J:B1 K mg "start_anew" (E6 44) ["desk","parties"]
 A2J:B1 K mg "keep_change" (E6 45) ["desk","changed"]
 A7Y:B1 K mg "has_promise" (E6 46) ["desk","c"]
 B3l:B1 K mg "has_deal" (E6 47) ["desk","k"]
 A5d:B1 K mg "find_item" (E6 48) ["desk","i"]
 B5D:B1 K mg "is_full" (E6 49) ["desk"]
 B1Q:B1 K mg "shelve" (E6 50) ["desk","promise"]
 A6P:B1 K mg "combined" (E6 52) ["word","first","second"]
 A2I:B1 K mg "number_part" (E6 55) ["number"]
 A5b:B1 K mg "name_part" (E6 56) ["name"]
 A6N:B1 K mg "day_part" (E6 57) ["day"]
 A4V:B1 K mg "unit_part" (E6 58) ["unit"]
 A8L:B1 K mg "text_of" (E6 59) ["word","parts"]
 B1V:B1 K mg "joined" (E6 60) ["word","parts"]
 A2K:B1 K mg "inner_first" (E6 61) ["whole"]
 A45:B1 K mg "result_of" (E6 63) ["whole","worths"]
 A6A:B1 K mg "work_out" (E6 65) ["state","items"]
 A1Q:B1 K mg "work_out_all" (E6 66) ["state"]
 B8c:B1 K mg "kept" (E6 67) ["state","item","number"]
 B4u:B1 K mg "waits" (E6 68) ["state","item"]
 A0T:B1 K mg "names_measured" (E6 69) ["promise"]
 A1k:B1 K mg "names_awaited" (E6 70) ["state"]
 A3D:B1 K mg "what_comes" (E6 71) ["state","item"]
 C1f:B1 K mg "had" (E6 72) ["item","promise"]
 B8e:B1 K mg "book" (E6 73) ["state","item"]
 A0i:B1 K mg "what_is_measured" (E6 74) ["state","item"]
 A1i:B1 K mg "what_is_dated" (E6 75) ["state","item"]
 A44:B1 K mg "see_value" (E6 77) ["desk","o","value"]
 A3M:B1 K mg "choose_one" (E6 78) ["desk","who","i","which"]
 A6G:B1 K mg "take_now" (E6 79) ["desk","who","i"]
 A1V:B1 K mg "have_instead" (E6 80) ["desk","item","promise"]
 A5e:B1 K mg "close_day" (E6 81) ["desk"]
 A3K:B1 K mg "settle_ors" (E6 82) ["state"]
 A6B:B1 K mg "unchosen" (E6 83) ["item"]
 A6F:B1 K mg "tell_day" (E6 84) ["desk"]
 A1S:B1 K mg "read_promise" (E6 90) ["numbers"]
 A6Q:B1 K mg "bytes_of" (E6 91) ["promise"]
 A4W:B1 K mg "text_from" (E6 92) ["numbers"]
 A47:B1 K mg "pieces_of" (E6 93) ["text"]
 A3I:B1 K mg "take_piece" (E6 94) ["reader","piece"]
 A42:B1 K mg "take_mark" (E6 95) ["reader","piece"]
 A6R:B1 K mg "add_part" (E6 96) ["reader","part"]
 A2F:B1 K mg "single_part" (E6 97) ["sort","piece"]
 A5c:B1 K mg "is_number" (E6 98) ["piece"]
 A3N:B1 K mg "begin_anew" (E6 100) ["desk","parties"]
 A43:B1 K mg "sign_deal" (E6 101) ["desk","holder","other","c"]
 A41:B1 K mg "tell_deal" (E6 102) ["desk","k"]
 A3F:B1 K mg "tell_items" (E6 103) ["desk"]
 A40:B1 K mg "tell_item" (E6 104) ["desk","i"]
 A8X:B1 K mg "is_side" (E6 105) ["deal","party"]
 A2M:B1 K mg "assign_side" (E6 106) ["desk","who","k","to"]
 A27:B1 K mg "stand_in" (E6 107) ["party","who","to"]
 A3H:B1 K mg "taken_over" (E6 108) ["item","k","who","to"]
 A2L:B1 K mg "cancel_deal" (E6 109) ["desk","who","k"]
 A4Z:B1 K mg "tell_pays" (E6 111) ["desk"]
 A6D:B1 K mg "tell_pay" (E6 112) ["desk","k"]
 A1R:B1 K mg "tell_balance" (E6 113) ["desk","p"]
 A6E:B1 K mg "tell_net" (E6 114) ["desk","day"]
 B4w:B1 K mg "gains" (E6 115) ["payments","party"]
 B1P:B1 K mg "tidied" (E6 118) ["promise"]
 A3E:B1 K mg "tidied_one" (E6 119) ["word","parts"]
 B0h:B1 K mg "is_nothing" (E6 120) ["promise"]
 A5E:B1 K mg "tidied_amount" (E6 121) ["word","parts"]
 A7X:B1 K mg "tidied_both" (E6 122) ["parts"]
 A6C:B1 K mg "tidied_times" (E6 123) ["parts"]
 B4v:B1 K mg "tried" (E6 126) ["promise","day","worths"]
 A6O:B1 K mg "comes_of" (E6 127) ["having","worths"]
 A46:B1 K mg "read_text" (E6 130) ["desk","numbers"]
 A4X:B1 K mg "tell_text" (E6 131) ["desk","c"]
 A3G:B1 K mg "tell_about" (E6 132) ["desk","c"]
 A1j:B1 K mg "shelve_tidied" (E6 133) ["desk","c"]
 A4Y:B1 K mg "tell_same" (E6 134) ["desk","c","d"]
 A2G:B1 K mg "shelve_made" (E6 135) ["desk","kind","a","b","x"]
 B3m:B1 K mg "can_make" (E6 136) ["kind","x"]
 B8b:B1 K mg "made" (E6 137) ["shelf","kind","a","b","x"]
 A8K:B1 K mg "try_out" (E6 138) ["desk","c","day","worths"]
 A2E:B1 K mg "undo_change" (E6 140) ["desk"]
 A2H:B1 K mg "redo_change" (E6 141) ["desk"]
 A6L:B1 K mg "on_begin" (E6 146) ["desk","told"]
 A8S:B1 K mg "on_read" (E6 147) ["desk","told"]
 A6H:B1 K mg "on_write" (E6 148) ["desk","told"]
 A6M:B1 K mg "on_about" (E6 149) ["desk","told"]
 A8N:B1 K mg "on_tidy" (E6 150) ["desk","told"]
 A8Q:B1 K mg "on_same" (E6 151) ["desk","told"]
 A8U:B1 K mg "on_make" (E6 152) ["desk","told"]
 A6I:B1 K mg "on_trial" (E6 153) ["desk","told"]
 A8P:B1 K mg "on_sign" (E6 154) ["desk","told"]
 A8W:B1 K mg "on_deal" (E6 155) ["desk","told"]
 A6J:B1 K mg "on_items" (E6 156) ["desk","told"]
 A8V:B1 K mg "on_item" (E6 157) ["desk","told"]
 B1R:B1 K mg "on_see" (E6 158) ["desk","told"]
 A48:B1 K mg "on_choose" (E6 159) ["desk","told"]
 A8O:B1 K mg "on_take" (E6 160) ["desk","told"]
 A6K:B1 K mg "on_close" (E6 161) ["desk","told"]
 B1U:B1 K mg "on_day" (E6 162) ["desk","told"]
 A8T:B1 K mg "on_pays" (E6 163) ["desk","told"]
 B1S:B1 K mg "on_pay" (E6 164) ["desk","told"]
 A3L:B1 K mg "on_balance" (E6 165) ["desk","told"]
 B1T:B1 K mg "on_net" (E6 166) ["desk","told"]
 A5a:B1 K mg "on_assign" (E6 167) ["desk","told"]
 A49:B1 K mg "on_cancel" (E6 168) ["desk","told"]
 A8M:B1 K mg "on_undo" (E6 169) ["desk","told"]
 A8R:B1 K mg "on_redo" (E6 170) ["desk","told"]
 A8Z:B1 K mg "answers" (E6 172) ["calls"]
 C2R:Y6 K mg "Deal" "Deal.__init__" (Y8 (E6 36) 0) ["self","holder","other","day","wanting","over"] ad.G1
 C2P:Y6 K mg "Item" "Item.__init__" (Y8 (E6 37) 0) ["self","deal","holder","other","times","promise"] ad.B6
 B5m:Y6 K mg "Payment" "Payment.__init__" (Y8 (E6 39) 0) ["self","day","deal","giver","taker","unit","amount"] ad.C0
 C0i:Y6 K mg "State" "State.__init__" (Y8 (E6 40) 0) ["self","parties"] ad.A7
 C2Q:Y6 K mg "Desk" "Desk.__init__" (Y8 (E6 43) 0) ["self"] ad.B9
 C2O:Y6 K mg "Part" "Part.__init__" (Y8 (E6 54) 0) ["self","word","parts","text"] ad.A8
 C0j:Y6 K mg "Frame" "Frame.__init__" (Y8 (E6 88) 0) ["self","word","wanted"] ad.K4
 B7K:Y6 K mg "Reader" "Reader.__init__" (Y8 (E6 89) 0) ["self"] ad.D0
 B7L:Y6 K mg "Having" "Having.__init__" (Y8 (E6 125) 0) ["self","promise","times","day"] ad.D5
variable{P:Nk}{w:World}{K:Fg}{mg:MG}{base:Heap}(T:Txt P w K mg)
abbrev _root_.L2.B1.C{x:Str}{st:Stmt}{ps:List Str}(_:B1 K mg x st ps)(_:Txt P w K mg)(base:Heap)(k:Nat)(sp:Sp):Prop:=Cal P w K mg base k x ps sp
abbrev HH(K:Fg)(sp:Sp)(d:DB)(r:L2.St)(n:Nat):Prop:=∀(H:Hp)(vs:List V)(Q:VK)(E:XK),sp vs H Q E->vs.length=n/\J7 K d {nx:=kNx Q,rt:=Q} (vs.map some++r) H
def C0Y{N:List Str}{vs:List V}{r:L2.St}{n:Nat}(h:vs.length=n)(e:List.replicate (N.length -n) none=r):A0L N vs=vs.map some++r:=by subst e;subst h;rfl
def _root_.L2.B1.g{x:Str}{st:Stmt}{ps:List Str}{k:Nat}{sp:Sp}(F:B1 K mg x st ps)(T:Txt P w K mg)(d:DB)(r:L2.St)(ok: ∀W,In W P w K mg base k->(A7z d).need W True)(h:HH K sp d r ps.length)(N:List Str:=lcl st)(e:List.replicate (N.length -ps.length) none=r:=by kernel_rfl)(S:W8 N ps (C6 st):=by bv_omega)(ck:A72 N (C6 st) d (M9 st)=true:=by kernel_rfl)(bs:(A7z d).bas tab=true:=by kernel_rfl):Cal P w K mg base (k+1) x ps sp:=
 F.go S d ck (λvs H Q E hs=>(h H vs Q E hs).1) (λW I=>(Tr.by (T.lf I).mem _ bs (ok W I)).1) λH vs Q E hs=>by rw[C0Y (h H vs Q E hs).1 e];exact(h H vs Q E hs).2
def _root_.L2.Y6.g{C:Nh}{q:Str}{x:Str}{st:Stmt}{ps:List Str}{k:Nat}{sp:Sp}(F:Y6 K mg x q st ps C)(T:Txt P w K mg)(d:DB)(r:L2.St)(ok: ∀W,In W P w K mg base k->(A7z d).need W True)(h:HH K sp d r ps.length)(N:List Str:=lcl st)(e:List.replicate (N.length -ps.length) none=r:=by kernel_rfl)(S:W8 N ps (C6 st):=by bv_omega)(ck:A72 N (C6 st) d (M9 st)=true:=by kernel_rfl)(bs:(A7z d).bas tab=true:=by kernel_rfl):Kls P w K mg base (k+1) x C ps sp:=
 F.go S d ck (λvs H Q E hs=>(h H vs Q E hs).1) (λW I=>(Tr.by (T.lf I).mem _ bs (ok W I)).1) λH vs Q E hs=>by rw[C0Y (h H vs Q E hs).1 e];exact(h H vs Q E hs).2
def inl(K:Fg)(d:DB)(n:Nat)(r:L2.St):Sp:=λvs H Q _=>vs.length=n/\J7 K d {nx:=kNx Q,rt:=Q} (vs.map some++r) H
@[simp↓]def D1i(d:DB)(r:L2.St)(H:Hp)(Q:VK)(E:XK)(x0:V):inl K d 1 r [x0] H Q E=J7 K d {nx:=kNx Q,rt:=Q} (some x0::r) H:=Jg ⟨λq=>q.2,λq=>⟨rfl,q⟩⟩
@[simp↓]def D1h(d:DB)(r:L2.St)(H:Hp)(Q:VK)(E:XK)(x0 x1:V):inl K d 2 r [x0,x1] H Q E=J7 K d {nx:=kNx Q,rt:=Q} (some x0::some x1::r) H:=Jg ⟨λq=>q.2,λq=>⟨rfl,q⟩⟩
@[simp↓]def D1g(d:DB)(r:L2.St)(H:Hp)(Q:VK)(E:XK)(x0 x1 x2:V):inl K d 3 r [x0,x1,x2] H Q E=J7 K d {nx:=kNx Q,rt:=Q} (some x0::some x1::some x2::r) H:=Jg ⟨λq=>q.2,λq=>⟨rfl,q⟩⟩
def B8{f:Str}{fs:List (Str×V)}{v:V}{k:V->Prop}(h:fs.lookup f=some v):D9 f fs k=k v:=Jg ⟨λ⟨_,e,q⟩=>by rw[h]at e;cases e;exact q,λq=>⟨v,h,q⟩⟩
noncomputable def A1W(x0 x1 x2 x3 x4:V):List (Str×V):=[("holder",x0),("other",x1),("day",x2),("wanting",x3),("over",x4)]
section
variable(x0 x1 x2 x3 x4 y:V)(k:V->Prop)
@[simp↓]def B75:D9 "holder" (A1W x0 x1 x2 x3 x4) k=k x0:=B8 (by kernel_rfl)
@[simp↓]def B82:D9 "other" (A1W x0 x1 x2 x3 x4) k=k x1:=B8 (by kernel_rfl)
@[simp↓]def C1e:D9 "day" (A1W x0 x1 x2 x3 x4) k=k x2:=B8 (by kernel_rfl)
@[simp↓]def B53:D9 "wanting" (A1W x0 x1 x2 x3 x4) k=k x3:=B8 (by kernel_rfl)
@[simp↓]def C0o:D9 "over" (A1W x0 x1 x2 x3 x4) k=k x4:=B8 (by kernel_rfl)
@[simp]def C51:(A1W x0 x1 x2 x3 x4).length=5:=rfl
end
noncomputable def X9(x0 x1 x2 x3 x4 x5 x6:V):List (Str×V):=[("number",x0),("deal",x1),("holder",x2),("other",x3),("times",x4),("promise",x5),("looked",x6)]
section
variable(x0 x1 x2 x3 x4 x5 x6 y:V)(k:V->Prop)
@[simp↓]def B7Z:D9 "number" (X9 x0 x1 x2 x3 x4 x5 x6) k=k x0:=B8 (by kernel_rfl)
@[simp]def B65:D8 "number" y (X9 x0 x1 x2 x3 x4 x5 x6)=X9 y x1 x2 x3 x4 x5 x6:=by kernel_rfl
@[simp↓]def C0n:D9 "deal" (X9 x0 x1 x2 x3 x4 x5 x6) k=k x1:=B8 (by kernel_rfl)
@[simp↓]def B71:D9 "holder" (X9 x0 x1 x2 x3 x4 x5 x6) k=k x2:=B8 (by kernel_rfl)
@[simp↓]def B8Z:D9 "other" (X9 x0 x1 x2 x3 x4 x5 x6) k=k x3:=B8 (by kernel_rfl)
@[simp↓]def B8Y:D9 "times" (X9 x0 x1 x2 x3 x4 x5 x6) k=k x4:=B8 (by kernel_rfl)
@[simp↓]def B50:D9 "promise" (X9 x0 x1 x2 x3 x4 x5 x6) k=k x5:=B8 (by kernel_rfl)
@[simp↓]def B70:D9 "looked" (X9 x0 x1 x2 x3 x4 x5 x6) k=k x6:=B8 (by kernel_rfl)
@[simp]def B66:D8 "looked" y (X9 x0 x1 x2 x3 x4 x5 x6)=X9 x0 x1 x2 x3 x4 x5 y:=by kernel_rfl
@[simp]def C5Z:(X9 x0 x1 x2 x3 x4 x5 x6).length=7:=rfl
end
noncomputable def Q4(x0 x1 x2 x3 x4 x5:V):List (Str×V):=[("day",x0),("deal",x1),("giver",x2),("taker",x3),("unit",x4),("amount",x5)]
section
variable(x0 x1 x2 x3 x4 x5 y:V)(k:V->Prop)
@[simp↓]def B7Y:D9 "day" (Q4 x0 x1 x2 x3 x4 x5) k=k x0:=B8 (by kernel_rfl)
@[simp↓]def B5Z:D9 "deal" (Q4 x0 x1 x2 x3 x4 x5) k=k x1:=B8 (by kernel_rfl)
@[simp↓]def B5y:D9 "giver" (Q4 x0 x1 x2 x3 x4 x5) k=k x2:=B8 (by kernel_rfl)
@[simp↓]def B5x:D9 "taker" (Q4 x0 x1 x2 x3 x4 x5) k=k x3:=B8 (by kernel_rfl)
@[simp↓]def B5Y:D9 "unit" (Q4 x0 x1 x2 x3 x4 x5) k=k x4:=B8 (by kernel_rfl)
@[simp↓]def B4p:D9 "amount" (Q4 x0 x1 x2 x3 x4 x5) k=k x5:=B8 (by kernel_rfl)
@[simp]def C2G:(Q4 x0 x1 x2 x3 x4 x5).length=6:=rfl
end
noncomputable def E9(x0 x1 x2 x3 x4 x5 x6 x7 x8:V):List (Str×V):=[("parties",x0),("day",x1),("shelf",x2),("deals",x3),("pending",x4),("numbered",x5),("payments",x6),("seen",x7),("worths",x8)]
section
variable(x0 x1 x2 x3 x4 x5 x6 x7 x8 y:V)(k:V->Prop)
@[simp↓]def A4u:D9 "parties" (E9 x0 x1 x2 x3 x4 x5 x6 x7 x8) k=k x0:=B8 (by kernel_rfl)
@[simp↓]def B0c:D9 "day" (E9 x0 x1 x2 x3 x4 x5 x6 x7 x8) k=k x1:=B8 (by kernel_rfl)
@[simp]def A92:D8 "day" y (E9 x0 x1 x2 x3 x4 x5 x6 x7 x8)=E9 x0 y x2 x3 x4 x5 x6 x7 x8:=by kernel_rfl
@[simp↓]def A6x:D9 "shelf" (E9 x0 x1 x2 x3 x4 x5 x6 x7 x8) k=k x2:=B8 (by kernel_rfl)
@[simp]def B63:D8 "shelf" y (E9 x0 x1 x2 x3 x4 x5 x6 x7 x8)=E9 x0 x1 y x3 x4 x5 x6 x7 x8:=by kernel_rfl
@[simp↓]def A6y:D9 "deals" (E9 x0 x1 x2 x3 x4 x5 x6 x7 x8) k=k x3:=B8 (by kernel_rfl)
@[simp]def B64:D8 "deals" y (E9 x0 x1 x2 x3 x4 x5 x6 x7 x8)=E9 x0 x1 x2 y x4 x5 x6 x7 x8:=by kernel_rfl
@[simp↓]def A4t:D9 "pending" (E9 x0 x1 x2 x3 x4 x5 x6 x7 x8) k=k x4:=B8 (by kernel_rfl)
@[simp]def A0P:D8 "pending" y (E9 x0 x1 x2 x3 x4 x5 x6 x7 x8)=E9 x0 x1 x2 x3 y x5 x6 x7 x8:=by kernel_rfl
@[simp↓]def A3C:D9 "numbered" (E9 x0 x1 x2 x3 x4 x5 x6 x7 x8) k=k x5:=B8 (by kernel_rfl)
@[simp]def A3v:D8 "numbered" y (E9 x0 x1 x2 x3 x4 x5 x6 x7 x8)=E9 x0 x1 x2 x3 x4 y x6 x7 x8:=by kernel_rfl
@[simp↓]def A3B:D9 "payments" (E9 x0 x1 x2 x3 x4 x5 x6 x7 x8) k=k x6:=B8 (by kernel_rfl)
@[simp]def B31:D8 "payments" y (E9 x0 x1 x2 x3 x4 x5 x6 x7 x8)=E9 x0 x1 x2 x3 x4 x5 y x7 x8:=by kernel_rfl
@[simp↓]def A7S:D9 "seen" (E9 x0 x1 x2 x3 x4 x5 x6 x7 x8) k=k x7:=B8 (by kernel_rfl)
@[simp]def A2A:D8 "seen" y (E9 x0 x1 x2 x3 x4 x5 x6 x7 x8)=E9 x0 x1 x2 x3 x4 x5 x6 y x8:=by kernel_rfl
@[simp↓]def A5D:D9 "worths" (E9 x0 x1 x2 x3 x4 x5 x6 x7 x8) k=k x8:=B8 (by kernel_rfl)
@[simp]def B5T:D8 "worths" y (E9 x0 x1 x2 x3 x4 x5 x6 x7 x8)=E9 x0 x1 x2 x3 x4 x5 x6 x7 y:=by kernel_rfl
@[simp]def C42:(E9 x0 x1 x2 x3 x4 x5 x6 x7 x8).length=9:=rfl
end
noncomputable def S9(x0 x1 x2:V):List (Str×V):=[("now",x0),("before",x1),("undone",x2)]
section
variable(x0 x1 x2 y:V)(k:V->Prop)
@[simp↓]def C1d:D9 "now" (S9 x0 x1 x2) k=k x0:=B8 (by kernel_rfl)
@[simp]def C06:D8 "now" y (S9 x0 x1 x2)=S9 y x1 x2:=by kernel_rfl
@[simp↓]def B74:D9 "before" (S9 x0 x1 x2) k=k x1:=B8 (by kernel_rfl)
@[simp]def B68:D8 "before" y (S9 x0 x1 x2)=S9 x0 y x2:=by kernel_rfl
@[simp↓]def B73:D9 "undone" (S9 x0 x1 x2) k=k x2:=B8 (by kernel_rfl)
@[simp]def B67:D8 "undone" y (S9 x0 x1 x2)=S9 x0 x1 y:=by kernel_rfl
@[simp]def C50:(S9 x0 x1 x2).length=3:=rfl
end
noncomputable def G9(x0 x1 x2 x3 x4 x5 x6 x7:V):List (Str×V):=[("word",x0),("parts",x1),("text",x2),("value",x3),("names",x4),("last",x5),("size",x6),("plain",x7)]
section
variable(x0 x1 x2 x3 x4 x5 x6 x7 y:V)(k:V->Prop)
@[simp↓]def B0d:D9 "word" (G9 x0 x1 x2 x3 x4 x5 x6 x7) k=k x0:=B8 (by kernel_rfl)
@[simp↓]def A7V:D9 "parts" (G9 x0 x1 x2 x3 x4 x5 x6 x7) k=k x1:=B8 (by kernel_rfl)
def A95:(G9 x0 x1 x2 x3 x4 x5 x6 x7).lookup ("text":Str)=some x2:=by kernel_rfl
@[simp↓]def B0e:D9 "text" (G9 x0 x1 x2 x3 x4 x5 x6 x7) k=k x2:=B8 (by kernel_rfl)
@[simp↓]def A7T:D9 "value" (G9 x0 x1 x2 x3 x4 x5 x6 x7) k=k x3:=B8 (by kernel_rfl)
@[simp]def B8V:D8 "value" y (G9 x0 x1 x2 x3 x4 x5 x6 x7)=G9 x0 x1 x2 y x4 x5 x6 x7:=by kernel_rfl
@[simp↓]def A7W:D9 "names" (G9 x0 x1 x2 x3 x4 x5 x6 x7) k=k x4:=B8 (by kernel_rfl)
@[simp]def B8X:D8 "names" y (G9 x0 x1 x2 x3 x4 x5 x6 x7)=G9 x0 x1 x2 x3 y x5 x6 x7:=by kernel_rfl
@[simp↓]def B0g:D9 "last" (G9 x0 x1 x2 x3 x4 x5 x6 x7) k=k x5:=B8 (by kernel_rfl)
@[simp]def B9G:D8 "last" y (G9 x0 x1 x2 x3 x4 x5 x6 x7)=G9 x0 x1 x2 x3 x4 y x6 x7:=by kernel_rfl
@[simp↓]def B0f:D9 "size" (G9 x0 x1 x2 x3 x4 x5 x6 x7) k=k x6:=B8 (by kernel_rfl)
@[simp]def B9F:D8 "size" y (G9 x0 x1 x2 x3 x4 x5 x6 x7)=G9 x0 x1 x2 x3 x4 x5 y x7:=by kernel_rfl
@[simp↓]def A7U:D9 "plain" (G9 x0 x1 x2 x3 x4 x5 x6 x7) k=k x7:=B8 (by kernel_rfl)
@[simp]def B8W:D8 "plain" y (G9 x0 x1 x2 x3 x4 x5 x6 x7)=G9 x0 x1 x2 x3 x4 x5 x6 y:=by kernel_rfl
@[simp]def C5Y:(G9 x0 x1 x2 x3 x4 x5 x6 x7).length=8:=rfl
end
noncomputable def A1a(x0 x1 x2:V):List (Str×V):=[("word",x0),("wanted",x1),("parts",x2)]
section
variable(x0 x1 x2 y:V)(k:V->Prop)
@[simp↓]def B81:D9 "word" (A1a x0 x1 x2) k=k x0:=B8 (by kernel_rfl)
@[simp↓]def B52:D9 "wanted" (A1a x0 x1 x2) k=k x1:=B8 (by kernel_rfl)
@[simp↓]def B72:D9 "parts" (A1a x0 x1 x2) k=k x2:=B8 (by kernel_rfl)
@[simp]def C43:(A1a x0 x1 x2).length=3:=rfl
end
noncomputable def M8(x0 x1 x2:V):List (Str×V):=[("frames",x0),("wanted",x1),("whole",x2)]
section
variable(x0 x1 x2 y:V)(k:V->Prop)
@[simp↓]def B5w:D9 "frames" (M8 x0 x1 x2) k=k x0:=B8 (by kernel_rfl)
@[simp↓]def B5v:D9 "wanted" (M8 x0 x1 x2) k=k x1:=B8 (by kernel_rfl)
@[simp]def B45:D8 "wanted" y (M8 x0 x1 x2)=M8 x0 y x2:=by kernel_rfl
@[simp↓]def B5X:D9 "whole" (M8 x0 x1 x2) k=k x2:=B8 (by kernel_rfl)
@[simp]def B5U:D8 "whole" y (M8 x0 x1 x2)=M8 x0 x1 y:=by kernel_rfl
@[simp]def C3E:(M8 x0 x1 x2).length=3:=rfl
end
noncomputable def A0w(x0 x1 x2:V):List (Str×V):=[("promise",x0),("times",x1),("day",x2)]
section
variable(x0 x1 x2 y:V)(k:V->Prop)
@[simp↓]def B4q:D9 "promise" (A0w x0 x1 x2) k=k x0:=B8 (by kernel_rfl)
@[simp↓]def B51:D9 "times" (A0w x0 x1 x2) k=k x1:=B8 (by kernel_rfl)
@[simp↓]def B80:D9 "day" (A0w x0 x1 x2) k=k x2:=B8 (by kernel_rfl)
@[simp]def C3F:(A0w x0 x1 x2).length=3:=rfl
end
abbrev Con:=Kcp0.Con
abbrev Cond:=Kcp0.Cond
abbrev Exp:=Kcp0.Exp
inductive Nd where
 |con(c:Con)|cnd(b:Cond)|exp(e:Exp)|day(d:Nat)|unit(u:Nat)
 deriving DecidableEq
noncomputable def Nd.wd:Nd->String
 |.con .nothing=>"nothing"|.con (.one _)=>"one"|.con (.both _ _)=>"both"|.con (.or_ _ _)=>"or"|.con (.turn _)=>"turn"|.con (.times _ _)=>"times"
 |.con (.if_ _ _ _)=>"if"|.con (.at_ _ _)=>"at"|.con (.when_ _ _ _)=>"when"|.con (.any_ _ _)=>"any"
 |.cnd (.le _ _)=>"le"|.cnd (.lt _ _)=>"lt"|.cnd (.not_ _)=>"not"|.cnd (.all_ _ _)=>"all"|.cnd (.some_ _ _)=>"some"
 |.exp (.num _)=>"number"|.exp (.seen _)=>"name"|.exp (.add _ _)=>"add"|.exp (.sub _ _)=>"sub"|.exp (.mul _ _)=>"mul"
 |.day _=>"day"|.unit _=>"unit"
noncomputable def Nd.kids:Nd->List Nd
 |.con .nothing=>[]|.con (.one u)=>[.unit u]|.con (.both a b)=>[.con a,.con b]|.con (.or_ a b)=>[.con a,.con b]|.con (.turn a)=>[.con a]|.con (.times e a)=>[.exp e,.con a]
 |.con (.if_ b x y)=>[.cnd b,.con x,.con y]|.con (.at_ d a)=>[.day d,.con a]|.con (.when_ d b a)=>[.day d,.cnd b,.con a]|.con (.any_ d a)=>[.day d,.con a]
 |.cnd (.le a b)=>[.exp a,.exp b]|.cnd (.lt a b)=>[.exp a,.exp b]|.cnd (.not_ a)=>[.cnd a]|.cnd (.all_ a b)=>[.cnd a,.cnd b]|.cnd (.some_ a b)=>[.cnd a,.cnd b]
 |.exp (.num _)=>[]|.exp (.seen _)=>[]|.exp (.add a b)=>[.exp a,.exp b]|.exp (.sub a b)=>[.exp a,.exp b]|.exp (.mul a b)=>[.exp a,.exp b]
 |.day _=>[]|.unit _=>[]
noncomputable def Nd.txt:Nd->List Nat
 |.con c=>Ks c|.cnd b=>La b|.exp e=>Kx e|.day d=>Kv d|.unit u=>[65+u]
noncomputable def Nd.val:Nd->Int
 |.exp (.num z)=>z|.exp (.seen k)=>k|.day d=>d|.unit u=>u|_=>0
def Nd.nm:Nd->Nat->Bool
 |.con c,k=>Mo k c|.cnd b,k=>Ln k b|.exp e,k=>Lr k e|_,_=>false
def Nd.names(n:Nd):Nat:=Ky n.nm
def Nd.last:Nd->Nat
 |.con c=>Mp c|.day d=>d|_=>0
def Nd.size:Nd->Nat
 |.con c=>Ku c|_=>0
def Nd.plain:Nd->Bool
 |.con c=>Lv c|_=>true
def Nd.made:Nd->Bool
 |.exp (.num _)=>false|.exp (.seen _)=>false|.day _=>false|.unit _=>false|_=>true
def Nd.isCon:Nd->Bool
 |.con _=>true|_=>false
def S(l:List Nat):Str:=⟨l.toArray⟩
def L6(s:String):S (Kr s)=Str.ofString s:=by rw[Str.ofString_eq_toList];rfl
def B8N{a b:List Nat}(h:S a=S b):a=b:=by have:=Hm (λx:Str=>x.cps.toList) h;simpa[S] using this
@[simp]def A5K{a b:List Nat}:S a=S b↔a=b:=⟨B8N,λh=>by rw[h]⟩
def C5w(a b:List Nat):S a++S b=S (a++b):=by show Str.append _ _=_;simp[Str.append,S]
def P1(a:List Nat):(S a).length=a.length:=by simp[S,Str.length]
def B9e{a b:String}(h:Kr a=Kr b):a=b:=by
 unfold Kr at h;have:a.toList=b.toList:=by exact(List.map_inj_right (λx y e=>Char.ext (UInt32.toNat_inj.mp e))).mp h
 exact String.toList_inj.mp this
@[simp]def A93{a b:String}:Str.ofString a=Str.ofString b↔a=b:=by rw[<-L6,<-L6,A5K];exact⟨B9e,λh=>by rw[h]⟩
def N1:List (List Nat)->List Nat
 |[]=>[]|[x]=>x|x::y::r=>x++[44]++N1 (y::r)
def Nd.txt_made{n:Nd}(h:n.made=true):n.txt=if n.kids=[] then Kr n.wd else Kr n.wd++[40]++N1 (n.kids.map Nd.txt)++[41]:=by
 have e: ∀w:String,Kr (w++"(")=Kr w++[40]:=λw=>by simp[Kr]
 have e1:=e "one";have e2:=e "both";have e3:=e "or";have e4:=e "turn";have e5:=e "times";have e6:=e "if";have e7:=e "at";have e8:=e "when";have e9:=e "any";have f1:=e "le";have f2:=e "lt";have f3:=e "not";have f4:=e "all";have f5:=e "some";have g1:=e "add";have g2:=e "sub";have g3:=e "mul";dsimp[show("one"++"(":String)="one(" from rfl,show("both"++"(":String)="both(" from rfl,show("or"++"(":String)="or(" from rfl,show("turn"++"(":String)="turn(" from rfl,show("times"++"(":String)="times(" from rfl,show("if"++"(":String)="if(" from rfl,show("at"++"(":String)="at(" from rfl,show("when"++"(":String)="when(" from rfl,show("any"++"(":String)="any(" from rfl,show("le"++"(":String)="le(" from rfl,show("lt"++"(":String)="lt(" from rfl,show("not"++"(":String)="not(" from rfl,show("all"++"(":String)="all(" from rfl,show("some"++"(":String)="some(" from rfl,show("add"++"(":String)="add(" from rfl,show("sub"++"(":String)="sub(" from rfl,show("mul"++"(":String)="mul(" from rfl]at e1 e2 e3 e4 e5 e6 e7 e8 e9 f1 f2 f3 f4 f5 g1 g2 g3
 cases n with
 |con c=>cases c<;>simp[Nd.txt,Nd.kids,Nd.wd,Ks,N1, *]
 |cnd c=>cases c<;>simp[Nd.txt,Nd.kids,Nd.wd,La,N1, *]
 |exp c=>cases c<;>simp[Nd.txt,Nd.kids,Nd.wd,Kx,N1,Nd.made, *]at h ⊢
 |day d=>simp[Nd.made]at h
 |unit d=>simp[Nd.made]at h
def Nd.nm_made{n:Nd}(h:n.made=true)(k:Nat):n.nm k=n.kids.any (λm=>m.nm k):=by
 cases n with
 |con c=>cases c<;>simp[Nd.nm,Nd.kids,Mo,Bool.or_assoc]
 |cnd c=>cases c<;>simp[Nd.nm,Nd.kids,Ln]
 |exp c=>cases c<;>simp[Nd.nm,Nd.kids,Lr,Nd.made]at h ⊢
 |day d=>simp[Nd.made]at h
 |unit d=>simp[Nd.made]at h
def Nd.last_made{n:Nd}(h:n.made=true):n.last=n.kids.foldl (λa m=>max a m.last) 0:=by
 cases n with
 |con c=>cases c<;>simp[Nd.last,Nd.kids,Mp]
 |cnd c=>cases c<;>simp[Nd.last,Nd.kids]
 |exp c=>cases c<;>simp[Nd.last,Nd.kids,Nd.made]at h ⊢
 |day d=>simp[Nd.made]at h
 |unit d=>simp[Nd.made]at h
def Nd.size_made{n:Nd}(h:n.made=true):n.size=n.kids.foldl (λa m=>a+m.size) 0+(if n.isCon then 1 else 0):=by
 cases n with
 |con c=>cases c<;>simp[Nd.size,Nd.kids,Ku,Nd.isCon]<;>lia
 |cnd c=>cases c<;>simp[Nd.size,Nd.kids,Nd.isCon]
 |exp c=>cases c<;>simp[Nd.size,Nd.kids,Nd.made,Nd.isCon]at h ⊢
 |day d=>simp[Nd.made]at h
 |unit d=>simp[Nd.made]at h
def Nd.plain_made{n:Nd}(h:n.made=true):n.plain=(n.kids.foldl (λa m=>a&&m.plain) true&&!(n.wd=="or"||n.wd=="any")):=by
 cases n with
 |con c=>cases c<;>simp[Nd.plain,Nd.kids,Lv,Nd.wd]
 |cnd c=>cases c<;>simp[Nd.plain,Nd.kids,Nd.wd]
 |exp c=>cases c<;>simp[Nd.plain,Nd.kids,Nd.made,Nd.wd]at h ⊢
 |day d=>simp[Nd.made]at h
 |unit d=>simp[Nd.made]at h
def Nd.val_made{n:Nd}(h:n.made=true):n.val=0:=by
 cases n with
 |con c=>rfl
 |cnd c=>rfl
 |exp c=>cases c<;>simp[Nd.val,Nd.made]at h ⊢
 |day d=>simp[Nd.made]at h
 |unit d=>simp[Nd.made]at h
def bN(f:Nat->Bool)(n:Nat):Nat:=((List.range n).filter f).foldl (λs k=>s+2^k) 0
def B8E(f:Nat->Bool)(n:Nat):bN f (n+1)=bN f n+(f n).toNat*2^n:=by unfold bN;rw[List.range_succ,Jx,Kb];cases h:f n<;>simp[h]
def C5u(f:Nat->Bool)(n:Nat):bN f n<2^n:=by
 induction n with
 |zero=>exact Nat.one_pos
 |succ n ih=>
  rw[B8E,Ji];have:(f n).toNat*2^n<=1*2^n:=Nat.mul_le_mul_right _ (by cases f n<;>decide)
  lia
def C5v(f:Nat->Bool)(n k:Nat):(bN f n).testBit k=(decide (k<n)&&f k):=by
 induction n with
 |zero=>exact Nat.zero_testBit k
 |succ n ih=>
  rw[B8E,Nat.add_comm,Nat.mul_comm,Nat.testBit_two_pow_mul_add _ (C5u f n),ih];by_cases h:k<n
  ·rw[Gf h,Hv h,Hv (Jl h)]
  ·rw[Gd h];by_cases e:k=n
   ·subst e;rw[Nat.sub_self,Hv (Jq k)];cases f k<;>rfl
   ·rw[Hk (by lia)];obtain⟨i,rfl⟩: ∃i,k=n+(i+1):=⟨k -n -1,by lia⟩
    rw[Ke,Nat.testBit_succ];cases f n<;>exact Nat.zero_testBit i
def Z5(f:Nat->Bool)(k:Nat):(Ky f).testBit k=(decide (k<8)&&f k):=C5v f 8 k
def B0D(f g:Nat->Bool):Ky f|||Ky g=Ky λk=>f k||g k:=by apply Nat.eq_of_testBit_eq;intro k;rw[Nat.testBit_or,Z5,Z5,Z5];cases decide (k<8)<;>simp
def B2q(f g:Nat->Bool):Ky f&&& Ky g=Ky λk=>f k&&g k:=by apply Nat.eq_of_testBit_eq;intro k;rw[Nat.testBit_and,Z5,Z5,Z5];cases decide (k<8)<;>simp
def A3d{f g:Nat->Bool}(h: ∀k,k<8->f k=g k):Ky f=Ky g:=by
 apply Nat.eq_of_testBit_eq;intro k;rw[Z5,Z5];by_cases hk:k<8
 ·rw[h k hk]
 ·simp[hk]
def N4{f:Nat->Bool}:Ky f=0↔∀k,k<8->f k=false:=by
 constructor
 ·intro h k hk;have:=Z5 f k;rw[h,Nat.zero_testBit]at this;simpa[hk] using this.symm
 ·intro h;rw[A3d (g:=λ_=>false) h];decide
def A3e(x:Nat):Builtin.bitNot (x:Int)<0:=by unfold Builtin.bitNot;lia
def A7a(x:Int):Builtin.bitNot (Builtin.bitNot x)=x:=by unfold Builtin.bitNot;lia
def A4D(x y:Nat):Builtin.bitOr (x:Int) (y:Int)=((x|||y:Nat):Int):=by unfold Builtin.bitOr Builtin.bitAnd;have h1:decide (0<=Builtin.bitNot (x:Int))=false:=Hk (by have:=A3e x;lia);have h2:decide (0<=Builtin.bitNot (y:Int))=false:=Hk (by have:=A3e y;lia);rw[h1,h2];dsimp[A7a,Je]
def B3D(x y:Nat):Builtin.bitAnd (x:Int) (y:Int)=((x&&& y:Nat):Int):=by unfold Builtin.bitAnd;have h1:decide (0<=(x:Int))=true:=Hv (by lia);have h2:decide (0<=(y:Int))=true:=Hv (by lia);rw[h1,h2];dsimp[Je]
def B3C(x y:Nat):Builtin.bitAnd (x:Int) (Builtin.bitNot (y:Int))=((x - (x&&& y):Nat):Int):=by
 unfold Builtin.bitAnd;have h1:decide (0<=(x:Int))=true:=Hv (by lia);have h2:decide (0<=Builtin.bitNot (y:Int))=false:=Hk (by have:=A3e y;lia);rw[h1,h2];dsimp[A7a,Je];have:x&&& y<=x:=Nat.and_le_left
 lia
def B8D(f g:Nat->Bool)(n:Nat):bN f n=bN (λk=>f k&&g k) n+bN (λk=>f k&&!g k) n:=by
 induction n with
 |zero=>rfl
 |succ n ih=>rw[B8E,B8E,B8E,ih];cases f n<;>cases g n<;>simp<;>lia
def B3B(f g:Nat->Bool):Ky f=(Ky λk=>f k&&g k)+(Ky λk=>f k&&!g k):=B8D f g 8
def A86(f g:Nat->Bool):Builtin.bitAnd (Ky f:Int) (Builtin.bitNot (Ky g:Int))=((Ky λk=>f k&&!g k:Nat):Int):=by
 rw[B3C,B2q];have:=B3B f g;congr 1
 lia
noncomputable def D6:Exp->List Nd
 |.num z=>[.exp (.num z)]
 |.seen k=>[.exp (.seen k)]
 |.add a b=>D6 a++D6 b++[.exp (.add a b)]
 |.sub a b=>D6 a++D6 b++[.exp (.sub a b)]
 |.mul a b=>D6 a++D6 b++[.exp (.mul a b)]
noncomputable def K2:Cond->List Nd
 |.le a b=>D6 a++D6 b++[.cnd (.le a b)]
 |.lt a b=>D6 a++D6 b++[.cnd (.lt a b)]
 |.not_ a=>K2 a++[.cnd (.not_ a)]
 |.all_ a b=>K2 a++K2 b++[.cnd (.all_ a b)]
 |.some_ a b=>K2 a++K2 b++[.cnd (.some_ a b)]
noncomputable def A9:Con->List Nd
 |.nothing=>[.con .nothing]
 |.one u=>[.unit u,.con (.one u)]
 |.both a b=>A9 a++A9 b++[.con (.both a b)]
 |.or_ a b=>A9 a++A9 b++[.con (.or_ a b)]
 |.turn a=>A9 a++[.con (.turn a)]
 |.times e a=>D6 e++A9 a++[.con (.times e a)]
 |.if_ b x y=>K2 b++A9 x++A9 y++[.con (.if_ b x y)]
 |.at_ d a=>.day d::A9 a++[.con (.at_ d a)]
 |.when_ d b a=>.day d::K2 b++A9 a++[.con (.when_ d b a)]
 |.any_ d a=>.day d::A9 a++[.con (.any_ d a)]
def Nd.post:Nd->List Nd
 |.con c=>A9 c|.cnd b=>K2 b|.exp e=>D6 e|.day d=>[.day d]|.unit u=>[.unit u]
def Nd.post_eq(n:Nd):n.post=n.kids.flatMap Nd.post++[n]:=by
 cases n with
 |con c=>cases c<;>simp[Nd.post,Nd.kids,A9]
 |cnd c=>cases c<;>simp[Nd.post,Nd.kids,K2]
 |exp c=>cases c<;>simp[Nd.post,Nd.kids,D6]
 |day d=>simp[Nd.post,Nd.kids]
 |unit d=>simp[Nd.post,Nd.kids]
def Nd.pre(n:Nd):List Nd:=n.post.reverse
def Nd.pre_eq(n:Nd):n.pre=n::n.kids.reverse.flatMap Nd.pre:=by unfold Nd.pre;rw[Nd.post_eq];simp[List.reverse_flatMap];rfl
def stp(st:List Nd)(n:Nd):Option (List Nd):=if st.take n.kids.length=n.kids.reverse then some (n::st.drop n.kids.length) else none
def A0e:List Nd->List Nd->Option (List Nd)
 |[],st=>some st
 |n::l,st=>(stp st n).bind (A0e l)
theorem A0O: ∀(l m:List Nd)(st:List Nd),A0e (l++m) st=(A0e l st).bind (A0e m)
 |[],m,st=>rfl
 |n::l,m,st=>by
  show(stp st n).bind (A0e (l++m))=((stp st n).bind (A0e l)).bind (A0e m)
  cases stp st n with
  |none=>rfl
  |some s=>exact A0O l m s
def B6E(n:Nd)(st:List Nd):stp (n.kids.reverse++st) n=some (n::st):=by
 unfold stp;have:n.kids.length=n.kids.reverse.length:=by simp
 rw[Gf (by rw[this,List.take_left]),this,List.drop_left]
def B7w{n:Nd}{st st':List Nd}(h:stp st n=some st'): ∃r,st=n.kids.reverse++r/\st'=n::r:=by
 unfold stp at h;split at h
 ·rename_i e;refine⟨st.drop n.kids.length,?_,(Hf h).symm⟩;rw[<-e,Jp]
 ·cases h
def Nd.kid_lt{n m:Nd}(h:m∈n.kids):m.post.length<n.post.length:=by
 rw[Nd.post_eq n];dsimp[Gg,Ge,Gr];have:m.post.length<=(n.kids.flatMap Nd.post).length:=by obtain⟨a,b,e⟩:=List.append_of_mem h;rw[e];simp;lia
 lia
theorem B1j: ∀(ks:List Nd)(st:List Nd),(∀k∈ks,∀st,A0e k.post st=some (k::st))->A0e (ks.flatMap Nd.post) st=some (ks.reverse++st)
 |[],st,_=>rfl
 |k::ks,st,h=>by rw[Ic,A0O,h k (by simp),Jf,B1j ks (k::st) λx hx=>h x (Gh _ hx)];simp
def B1g(n:Nd): ∀st,A0e n.post st=some (n::st):=by
 induction h:n.post.length using Nat.strongRecOn generalizing n with
 |_ m ih=>intro st;rw[Nd.post_eq,A0O,B1j n.kids st λk hk st=>ih _ (by rw[<-h];exact Nd.kid_lt hk) k rfl st];show(stp _ n).bind (A0e [])=_;rw[B6E];rfl
def B6R{l r:List Nd}(h:A0e l []=some r)(i:Nat): ∃st,A0e (l.take i) []=some st:=by
 have e:=A0O (l.take i) (l.drop i) [];rw[Jp,h]at e
 cases q:A0e (l.take i) [] with
 |none=>rw[q]at e;cases e
 |some st=>exact⟨st,rfl⟩
def B1h{l r st:List Nd}{i:Nat}{n:Nd}(h:A0e l []=some r)(hn:l[i]?=some n)(hs:A0e (l.take i) []=some st): ∃q,st=n.kids.reverse++q/\A0e (l.take (i+1)) []=some (n::q):=by
 obtain⟨st',h'⟩:=B6R h (i+1);have e:l.take (i+1)=l.take i++[n]:=by rw[Hz,hn];rfl
 rw[e,A0O,hs]at h';have h2:stp st n=some st':=by
  change (stp st n).bind (A0e [])=some st' at h'
  cases q:stp st n with
  |none=>rw[q]at h';cases h'
  |some z=>rw[q]at h';exact h'
 obtain⟨q,e1,e2⟩:=B7w h2;refine⟨q,e1,?_⟩;rw[e,A0O,hs];change (stp st n).bind (A0e [])=_;rw[h2,e2];rfl
theorem A91: ∀(l:List Nd){st r:List Nd},A0e l st=some r->r.length<=st.length+l.length
 |[],st,r,h=>by cases h;simp
 |n::l,st,r,h=>by
  change (stp st n).bind (A0e l)=some r at h
  cases e:stp st n with
  |none=>rw[e]at h;cases h
  |some s=>
   rw[e]at h;have:=A91 l h;obtain⟨q,e1,e2⟩:=B7w e;subst e1 e2;simp at this ⊢
   lia
@[simp]def C8T:(Nd.con .nothing).wd="nothing":=rfl
@[simp]def C8S(u:Nat):(Nd.con (.one u)).wd="one":=rfl
@[simp]def C8R(a b:Con):(Nd.con (.both a b)).wd="both":=rfl
@[simp]def C8Q(a b:Con):(Nd.con (.or_ a b)).wd="or":=rfl
@[simp]def C8P(a:Con):(Nd.con (.turn a)).wd="turn":=rfl
@[simp]def C8O(e:Exp)(a:Con):(Nd.con (.times e a)).wd="times":=rfl
@[simp]def C8N(b:Cond)(x y:Con):(Nd.con (.if_ b x y)).wd="if":=rfl
@[simp]def C8M(d:Nat)(a:Con):(Nd.con (.at_ d a)).wd="at":=rfl
@[simp]def C8L(d:Nat)(b:Cond)(a:Con):(Nd.con (.when_ d b a)).wd="when":=rfl
@[simp]def C8K(d:Nat)(a:Con):(Nd.con (.any_ d a)).wd="any":=rfl
@[simp]def C6O(a b:Exp):(Nd.cnd (.le a b)).wd="le":=rfl
@[simp]def C6N(a b:Exp):(Nd.cnd (.lt a b)).wd="lt":=rfl
@[simp]def C6M(a:Cond):(Nd.cnd (.not_ a)).wd="not":=rfl
@[simp]def C6L(a b:Cond):(Nd.cnd (.all_ a b)).wd="all":=rfl
@[simp]def C6K(a b:Cond):(Nd.cnd (.some_ a b)).wd="some":=rfl
@[simp]def C6J(z:Int):(Nd.exp (.num z)).wd="number":=rfl
@[simp]def C6I(k:Nat):(Nd.exp (.seen k)).wd="name":=rfl
@[simp]def C6H(a b:Exp):(Nd.exp (.add a b)).wd="add":=rfl
@[simp]def C6G(a b:Exp):(Nd.exp (.sub a b)).wd="sub":=rfl
@[simp]def C6F(a b:Exp):(Nd.exp (.mul a b)).wd="mul":=rfl
@[simp]def C6E(d:Nat):(Nd.day d).wd="day":=rfl
@[simp]def C5D(d:Nat):(Nd.unit d).wd="unit":=rfl
end PP
namespace L2
open PySem PySem.Spec PyProof.Rows
section
variable{C a b dx p:Nh}{fs:List (Str×V)}{xs:List V}{H:Hp}{o:HO}{ob:Obj}
def Ob(h:H a=some (.ins C dx fs))(k:Nh->Nh->List (Str×V)->Prop):atO C (.ref a) H k=k a dx fs:=
 Jg ⟨λ⟨_,_,_,e,h',q⟩=>by cases e;rw[h]at h';cases h';exact q,λq=>⟨a,dx,fs,rfl,h,q⟩⟩
def Ls(h:H a=some (.lst xs))(k:Nh->List V->Prop):atL (.ref a) H k=k a xs:=
 Jg ⟨λ⟨_,_,e,h',q⟩=>by cases e;rw[h]at h';cases h';exact q,λq=>⟨a,xs,rfl,h,q⟩⟩
def Tp(h:H a=some (.tup xs))(k:Nh->List V->Prop):atT (.ref a) H k=k a xs:=
 Jg ⟨λ⟨_,_,e,h',q⟩=>by cases e;rw[h]at h';cases h';exact q,λq=>⟨a,xs,rfl,h,q⟩⟩
@[simp↓]def D0H(k:Nh->Nh->List (Str×V)->Prop):atO C (.ref a) (upd H a (.ins C dx fs)) k=k a dx fs:=Ob A3 k
@[simp↓]def C5A(k:Nh->List V->Prop):atL (.ref a) (upd H a (.lst xs)) k=k a xs:=Ls A3 k
@[simp↓]def D0F(k:Nh->List V->Prop):atT (.ref a) (upd H a (.tup xs)) k=k a xs:=Tp A3 k
def N0(h:b≠a)(k:Nh->Nh->List (Str×V)->Prop):atO C (.ref b) (upd H a o) k=atO C (.ref b) H k:=by unfold atO;dsimp[V.ref.injEq];apply Jg;constructor<;>(rintro⟨c,d,f,rfl,h',q⟩;first|(rw[A4 h]at h';exact⟨_,_,_,rfl,h',q⟩)|exact⟨_,_,_,rfl,by rw[A4 h];exact h',q⟩)
def Lsn(h:b≠a)(k:Nh->List V->Prop):atL (.ref b) (upd H a o) k=atL (.ref b) H k:=by unfold atL;dsimp[V.ref.injEq];apply Jg;constructor<;>(rintro⟨c,f,rfl,h',q⟩;first|(rw[A4 h]at h';exact⟨_,_,rfl,h',q⟩)|exact⟨_,_,rfl,by rw[A4 h];exact h',q⟩)
def Tpn(h:b≠a)(k:Nh->List V->Prop):atT (.ref b) (upd H a o) k=atT (.ref b) H k:=by unfold atT;dsimp[V.ref.injEq];apply Jg;constructor<;>(rintro⟨c,f,rfl,h',q⟩;first|(rw[A4 h]at h';exact⟨_,_,rfl,h',q⟩)|exact⟨_,_,rfl,by rw[A4 h];exact h',q⟩)
end
@[simp↓]def D0w(i:Int)(k:Int->Prop):S0 (.int i) k=k i:=rfl
@[simp↓]def D0v(i:Str)(k:Str->Prop):asS (.str i) k=k i:=rfl
@[simp↓]def D0x(i:Bool)(k:Bool->Prop):asB (.bl i) k=k i:=rfl
@[simp↓]def C2X{S:Type}(i:S)(k:S->Prop):A1q (some i) k=k i:=rfl
def gI{S:Type}{o:Option S}{i:S}{k:S->Prop}(h:o=some i)(q:k i):A1q o k:=by rw[h];exact q
def gX{S:Type}{o:Option S}{i:S}(h:o=some i)(k:S->Prop):A1q o k=k i:=by rw[h];exact C2X i k
@[simp↓]def D0z(i:V)(k:V->Prop):as1 [i] k=k i:=rfl
@[simp↓]def D0y(i j:V)(k:V->V->Prop):as2 [i,j] k=k i j:=rfl
@[simp↓]def C6A{H:Hp}{a:Nh}{xs:List V}:IsL (.ref a) (upd H a (.lst xs))=True:=by unfold IsL;rw[C5A]
def iL{H:Hp}{a:Nh}{xs:List V}(h:H a=some (.lst xs)):IsL (.ref a) H=True:=by unfold IsL;rw[Ls h]
def iLn{H:Hp}{a b:Nh}{o:HO}(h:b≠a):IsL (.ref b) (upd H a o)=IsL (.ref b) H:=by unfold IsL;rw[Lsn h]
def B9K(xs:List V)(k:V->List V->Prop):Prop:=A1q xs[xs.length -1]? λy=>k y xs.dropLast
@[simp↓]def C2c(xs:List V)(x:V)(k:V->List V->Prop):B9K (xs++[x]) k=k x xs:=by unfold B9K;rw[gX (i:=x) (by simp),List.dropLast_concat]
@[simp↓]def C7o(x:V)(k:V->List V->Prop):B9K [x] k=k x []:=C2c [] x k
def A4e(S:St)(i:Nat)(x:V)(k:St->Prop):Prop:=k (S.set i (some x))
@[simp↓]def C67(v:Option V)(S:St)(x:V)(k:St->Prop):A4e (v::S) 0 x k=k (some x::S):=rfl
@[simp↓]def C66(v:Option V)(S:St)(i:Nat)(x:V)(k:St->Prop):A4e (v::S) (i+1) x k=A4e S i x fun S'=>k (v::S'):=rfl
def New(H:Hp)(o:HO)(Q:VK):Prop:=∀p,H p=none->Q (.ref p) (upd H p o)
def C44(S:St)(i:Nat)(D:A0H):VK:=λx H1=>A4e S i x fun S'=>D.nx S' H1
def kIf(K:Fg)(a b:DB)(D:A0H)(S:St):Bool->Hp->Prop:=λc H1=>if c=true then J7 K a D S H1 else J7 K b D S H1
def kTe(Q:Bool->Hp->Prop):VK:=λx H'=>asB x λk=>Q k H'
def kC2(x:V)(Q:List V->Hp->Prop):List V->Hp->Prop:=λxs H2=>Q (x::xs) H2
def kC(K:Fg)(es:DA)(S:St)(Q:List V->Hp->Prop):VK:=λx H1=>A1r K es S H1 (kC2 x Q)
def kO2(r:V->V->Hp->VK->Prop)(x:V)(Q:VK):VK:=λy H2=>r x y H2 Q
def kO(K:Fg)(r:V->V->Hp->VK->Prop)(b:DE)(S:St)(Q:VK):VK:=λx H1=>D2 K b S H1 (kO2 r x Q)
def kF(C:Nh)(f:Str)(Q:VK):VK:=λx H1=>atO C x H1 λ_ _ fs=>D9 f fs λv=>Q v H1
def kX(D:A0H)(S:St):VK:=λ_ H1=>D.nx S H1
def kB(Q:Bool->Hp->Prop):Bool->Hp->Prop:=λc H1=>Q (!c) H1
def kA(K:Fg)(ts:DTs)(S:St)(Q:Bool->Hp->Prop):Bool->Hp->Prop:=λc H1=>if c=true then A0k K true ts S H1 Q else Q false H1
def kR(K:Fg)(ts:DTs)(S:St)(Q:Bool->Hp->Prop):Bool->Hp->Prop:=λc H1=>if c=true then Q true H1 else A0k K false ts S H1 Q
def kY(Q:VK)(H:Hp):V->Prop:=λv=>Q v H
def kG(f:Str)(Q:VK)(H:Hp):Nh->Nh->List (Str×V)->Prop:=λ_ _ fs=>D9 f fs (kY Q H)
def kN(Q:VK):VK:=λx H1=>asB x λc=>Q (.bl (!c)) H1
def kIn(xs:List V)(Q:VK):VK:=λy H1=>Y5 y=true/\xs.all Y5=true/\Q (.bl (inV y xs)) H1
def kK(kvs:List (S4×V))(Q:VK):VK:=λy H1=>asS y λk=>Q (.bl (P2 kvs (.inr k)).isSome) H1
def kBA(K:Fg)(es:DA)(S:St)(Q:VK):VK:=λx H1=>asB x λc=>if c=true then A3a K true es S H1 Q else Q (.bl false) H1
def kBO(K:Fg)(es:DA)(S:St)(Q:VK):VK:=λx H1=>asB x λc=>if c=true then Q (.bl true) H1 else A3a K false es S H1 Q
def kIE(K:Fg)(a b:DE)(S:St)(Q:VK):Bool->Hp->Prop:=λc H1=>if c=true then D2 K a S H1 Q else D2 K b S H1 Q
def kCl(sp:Sp)(Q:VK):List V->Hp->Prop:=λvs H1=>sp (vs++[]) H1 Q E0
def kMQ(Q:VK)(x:Nh):VK:=λv H2=>v=.non/\Q (.ref x) H2
def kMk(C:Nh)(sp:Sp)(Q:VK):List V->Hp->Prop:=λvs H1=>∀x dx,H1 x=none->H1 dx=none->dx≠x->sp (.ref x::(vs++[])) (upd (upd H1 dx (.own x)) x (.ins C dx [])) (kMQ Q x) E0
def kBt(r:List V->Hp->VK->Prop)(Q:VK):List V->Hp->Prop:=λvs H1=>r vs H1 Q
def kLs(Q:VK):List V->Hp->Prop:=λxs H1=>xs.length<=sizeLine/\New H1 (.lst xs) Q
def kTu(Q:VK):List V->Hp->Prop:=λxs H1=>xs.length<=sizeLine/\New H1 (.tup xs) Q
def kIx(y:V)(Q:VK)(H:Hp):Nh->List V->Prop:=λ_ xs=>S0 y λi=>A1q (atI xs i) (kY Q H)
def kIG(xs:List V)(Q:VK):VK:=λy H1=>S0 y λi=>A1q (atI xs i) (kY Q H1)
def kLn(Q:VK)(H:Hp):Nh->List V->Prop:=λ_ ys=>Q (.int ys.length) H
def kMt(K:Fg)(m:Mt)(e:DE)(S:St)(Q:VK):VK:=λx H1=>IsL x H1/\D2 K e S H1 (kO2 m.r x Q)
def kAp(y:V)(Q:VK)(H:Hp):Nh->List V->Prop:=λl xs=>xs.length<sizeLine/\Q .non (upd H l (.lst (xs++[y])))
def kS3(C:Nh)(f:Str)(y:V)(D:A0H)(S:St)(H:Hp):Nh->Nh->List (Str×V)->Prop:=λa dx fs=>fs.length<1000/\D.nx S (upd H a (.ins C dx (D8 f y fs)))
def C2S(C:Nh)(f:Str)(y:V)(D:A0H)(S:St):VK:=λx H2=>atO C x H2 (kS3 C f y D S H2)
def kSF(K:Fg)(C:Nh)(o:DE)(f:Str)(D:A0H)(S:St):VK:=λy H1=>D2 K o S H1 (C2S C f y D S)
def B8K{a p q:Prop}(h:a)(e:p=q):(a/\p)=q:=by subst e;exact Jg ⟨And.right,λq=>⟨h,q⟩⟩
def C76(a b:String):decide (Str.ofString a=Str.ofString b)=(a==b):=by
 by_cases h:a=b
 ·subst h;simp
 ·rw[beq_false_of_ne h];exact Hk λe=>h (PP.A93.mp e)
section
variable(K:Fg)(S:St)(H:Hp)(Q:VK)(D:A0H)(x y:V)
@[simp↓]def C9g(Q:Bool->Hp->Prop)(b:Bool):kTe Q (.bl b) H=Q b H:=rfl
@[simp↓]def C9x(a b:DB):kIf K a b D S true H=J7 K a D S H:=rfl
@[simp↓]def C9y(a b:DB):kIf K a b D S false H=J7 K b D S H:=rfl
@[simp↓]def D1d(ts:DTs)(Q:Bool->Hp->Prop):kA K ts S Q true H=A0k K true ts S H Q:=rfl
@[simp↓]def D1e(ts:DTs)(Q:Bool->Hp->Prop):kA K ts S Q false H=Q false H:=rfl
@[simp↓]def D03(ts:DTs)(Q:Bool->Hp->Prop):kR K ts S Q true H=Q true H:=rfl
@[simp↓]def D04(ts:DTs)(Q:Bool->Hp->Prop):kR K ts S Q false H=A0k K false ts S H Q:=rfl
@[simp↓]def C7H(i:Nat):C44 S i D x H=A4e S i x fun S'=>D.nx S' H:=rfl
@[simp↓]def C9z(a b:DB)(c:Bool):kIf K a b D S c H=if c=true then J7 K a D S H else J7 K b D S H:=rfl
@[simp↓]def C9h(Q:Bool->Hp->Prop):kTe Q x H=asB x λk=>Q k H:=rfl
@[simp↓]def C9H(Q:List V->Hp->Prop)(xs:List V):kC2 x Q xs H=Q (x::xs) H:=rfl
@[simp↓]def D1b(es:DA)(Q:List V->Hp->Prop):kC K es S Q x H=A1r K es S H (kC2 x Q):=rfl
@[simp↓]def C9l(r:V->V->Hp->VK->Prop):kO2 r x Q y H=r x y H Q:=rfl
@[simp↓]def D06(r:V->V->Hp->VK->Prop)(b:DE):kO K r b S Q x H=D2 K b S H (kO2 r x Q):=rfl
@[simp↓]def D1a(C:Nh)(f:Str):kF C f Q x H=atO C x H (kG f Q H):=rfl
@[simp↓]def D02:kX D S x H=D.nx S H:=rfl
@[simp↓]def D1c(Q:Bool->Hp->Prop)(c:Bool):kB Q c H=Q (!c) H:=rfl
@[simp↓]def D1f(ts:DTs)(Q:Bool->Hp->Prop)(c:Bool):kA K ts S Q c H=if c=true then A0k K true ts S H Q else Q false H:=rfl
@[simp↓]def D05(ts:DTs)(Q:Bool->Hp->Prop)(c:Bool):kR K ts S Q c H=if c=true then Q true H else A0k K false ts S H Q:=rfl
@[simp↓]def C9m:kNx Q S H=Q .non H:=rfl
@[simp↓]def D01:kY Q H x=Q x H:=rfl
@[simp↓]def C7L(f:Str)(a b:Nh)(fs:List (Str×V)):kG f Q H a b fs=D9 f fs (kY Q H):=rfl
@[simp↓]def D07(c:Bool):kN Q (.bl c) H=Q (.bl (!c)) H:=rfl
@[simp↓]def C9w(xs:List V):kIn xs Q x H=(Y5 x=true/\xs.all Y5=true/\Q (.bl (inV x xs)) H):=rfl
@[simp↓]def D09(kvs:List (S4×V)):kK kvs Q x H=asS x λk=>Q (.bl (P2 kvs (.inr k)).isSome) H:=rfl
@[simp↓]def C9N(es:DA):kBA K es S Q (.bl true) H=A3a K true es S H Q:=rfl
@[simp↓]def C9O(es:DA):kBA K es S Q (.bl false) H=Q (.bl false) H:=rfl
@[simp↓]def C9K(es:DA):kBO K es S Q (.bl true) H=Q (.bl true) H:=rfl
@[simp↓]def C9L(es:DA):kBO K es S Q (.bl false) H=A3a K false es S H Q:=rfl
@[simp↓]def C9C(a b:DE):kIE K a b S Q true H=D2 K a S H Q:=rfl
@[simp↓]def C9D(a b:DE):kIE K a b S Q false H=D2 K b S H Q:=rfl
@[simp↓]def D08:kN Q x H=asB x λc=>Q (.bl (!c)) H:=rfl
@[simp↓]def C9P(es:DA):kBA K es S Q x H=asB x λc=>if c=true then A3a K true es S H Q else Q (.bl false) H:=rfl
@[simp↓]def C9M(es:DA):kBO K es S Q x H=asB x λc=>if c=true then Q (.bl true) H else A3a K false es S H Q:=rfl
@[simp↓]def C9E(a b:DE)(c:Bool):kIE K a b S Q c H=if c=true then D2 K a S H Q else D2 K b S H Q:=rfl
@[simp↓]def C9F(sp:Sp)(vs:List V):kCl sp Q vs H=sp (vs++[]) H Q E0:=rfl
@[simp↓]def C9r(p:Nh):kMQ Q p x H=(x=.non/\Q (.ref p) H):=rfl
@[simp↓]def C9p(C:Nh)(sp:Sp)(vs:List V):kMk C sp Q vs H=∀x dx,H x=none->H dx=none->dx≠x->sp (.ref x::(vs++[])) (upd (upd H dx (.own x)) x (.ins C dx [])) (kMQ Q x) E0:=rfl
@[simp↓]def C9I(r:List V->Hp->VK->Prop)(vs:List V):kBt r Q vs H=r vs H Q:=rfl
@[simp↓]def C9s(vs:List V):kLs Q vs H=(vs.length<=sizeLine/\New H (.lst vs) Q):=rfl
@[simp↓]def C9e(vs:List V):kTu Q vs H=(vs.length<=sizeLine/\New H (.tup vs) Q):=rfl
@[simp↓]def C9v(a:Nh)(vs:List V):kIx y Q H a vs=S0 y λi=>A1q (atI vs i) (kY Q H):=rfl
@[simp↓]def C9A(vs:List V):kIG vs Q y H=S0 y λi=>A1q (atI vs i) (kY Q H):=rfl
@[simp↓]def C9u(a:Nh)(vs:List V):kLn Q H a vs=Q (.int vs.length) H:=rfl
@[simp↓]def C9n(m:Mt)(e:DE):kMt K m e S Q x H=(IsL x H/\D2 K e S H (kO2 m.r x Q)):=rfl
@[simp↓]def C9Q(a:Nh)(vs:List V):kAp y Q H a vs=(vs.length<sizeLine/\Q .non (upd H a (.lst (vs++[y])))):=rfl
@[simp↓]def C9k(C:Nh)(f:Str)(a dx:Nh)(fs:List (Str×V)):kS3 C f y D S H a dx fs=(fs.length<1000/\D.nx S (upd H a (.ins C dx (D8 f y fs)))):=rfl
@[simp↓]def C7I(C:Nh)(f:Str):C2S C f y D S x H=atO C x H (kS3 C f y D S H):=rfl
@[simp↓]def C9i(C:Nh)(o:DE)(f:Str):kSF K C o f D S y H=D2 K o S H (C2S C f y D S):=rfl
@[simp↓]def C7Y(v:V):D2 K (.v 0) (some v::S) H Q=Q v H:=rfl
@[simp↓]def C7X(i:Nat)(v:Option V):D2 K (.v (i+1)) (v::S) H Q=D2 K (.v i) S H Q:=rfl
@[simp↓]def C98(z:Int):D2 K (.int z) S H Q=Q (.int z) H:=rfl
@[simp↓]def D1p(b:Bool):D2 K (.bl b) S H Q=Q (.bl b) H:=rfl
@[simp↓]def C92:D2 K .non S H Q=Q .non H:=rfl
@[simp↓]def C9Z(x:Str):D2 K (.str x) S H Q=Q (.str x) H:=rfl
@[simp↓]def D0d(x:Str)(v:V):D2 K (.glo x v) S H Q=Q v H:=rfl
@[simp↓]def D0f(C:Nh)(e:DE)(f:Str):D2 K (.g C e f) S H Q=D2 K e S H (kF C f Q):=rfl
@[simp↓]def D0i(o:BO)(a b:DE):D2 K (.bin o a b) S H Q=D2 K a S H (kO K o.r b S Q):=rfl
@[simp↓]def C8w:BO.r .add x y H Q=(S0 x λi=>S0 y λj=>Q (.int (i+j)) H):=rfl
@[simp↓]def C8r:BO.r .sub x y H Q=(S0 x λi=>S0 y λj=>Q (.int (i -j)) H):=rfl
@[simp↓]def C8t:BO.r .mul x y H Q=(S0 x λi=>S0 y λj=>C5z i j/\Q (.int (i*j)) H):=rfl
@[simp↓]def C8v:BO.r .and x y H Q=(S0 x λi=>S0 y λj=>Q (.int (Builtin.bitAnd i j)) H):=rfl
@[simp↓]def D0o:BO.r .or x y H Q=(S0 x λi=>S0 y λj=>Q (.int (Builtin.bitOr i j)) H):=rfl
@[simp↓]def C8s:BO.r .shl x y H Q=(S0 x λi=>S0 y λj=>C3A i j/\Q (.int (i*2^j.toNat)) H):=rfl
@[simp↓]def C8u:BO.r .cat x y H Q=(atL x H λ_ xs=>atL y H λ_ zs=>xs.length+zs.length<=sizeLine/\New H (.lst (xs++zs)) Q):=rfl
@[simp↓]def C93(a:DE):D2 K (.neg a) S H Q=D2 K a S H λx H1=>S0 x λi=>Q (.int (-i)) H1:=rfl
@[simp↓]def C97(a:DE):D2 K (.inv a) S H Q=D2 K a S H λx H1=>S0 x λi=>Q (.int (Builtin.bitNot i)) H1:=rfl
@[simp↓]def C91(a:DE):D2 K (.not a) S H Q=D2 K a S H (kN Q):=rfl
@[simp↓]def D0g(o:CO)(a b:DE):D2 K (.m o a b) S H Q=D2 K a S H (kO K o.r b S Q):=rfl
@[simp↓]def C8d(i j:Int):CO.r .eq (.int i) (.int j) H Q=Q (.bl (decide (i=j))) H:=B8K rfl (by rw[show decide (V.int i=V.int j)=decide (i=j) from by dsimp[V.int.injEq]])
@[simp↓]def C28(i j:Str):CO.r .eq (.str i) (.str j) H Q=Q (.bl (decide (i=j))) H:=B8K rfl (by rw[show decide (V.str i=V.str j)=decide (i=j) from by dsimp[V.str.injEq]])
@[simp ↓ high] theorem C8c (i j:String):CO.r .eq (.str (.ofString i)) (.str (.ofString j)) H Q=Q (.bl (i==j)) H:=by rw[C28,C76]
@[simp↓]def C8b(j:Int):CO.r .eq .non (.int j) H Q=Q (.bl false) H:=B8K rfl rfl
@[simp↓]def C79(i j:Int):CO.r .ne (.int i) (.int j) H Q=Q (.bl (!decide (i=j))) H:=B8K rfl (by rw[show decide (V.int i=V.int j)=decide (i=j) from by dsimp[V.int.injEq]])
@[simp↓]def C78(i j:Str):CO.r .ne (.str i) (.str j) H Q=Q (.bl (!decide (i=j))) H:=B8K rfl (by rw[show decide (V.str i=V.str j)=decide (i=j) from by dsimp[V.str.injEq]])
@[simp↓]def D0j:CO.r .lt x y H Q=(S0 x λi=>S0 y λj=>Q (.bl (decide (i<j))) H):=rfl
@[simp↓]def D0k:CO.r .le x y H Q=(S0 x λi=>S0 y λj=>Q (.bl (decide (i<=j))) H):=rfl
@[simp↓]def D0l:CO.r .gt x y H Q=(S0 x λi=>S0 y λj=>Q (.bl (decide (j<i))) H):=rfl
@[simp↓]def D0m:CO.r .ge x y H Q=(S0 x λi=>S0 y λj=>Q (.bl (decide (j<=i))) H):=rfl
@[simp↓]def C8a:CO.r .isN x .non H Q=Q (.bl (decide (x=.non))) H:=by show(_/\_)=_;simp
@[simp↓]def C6j:CO.r .notN x .non H Q=Q (.bl (!decide (x=.non))) H:=by show(_/\_)=_;simp
@[simp↓]def D0a(x:Str)(p:Nh)(xs:List V)(a:DE):D2 K (.inG x p xs a) S H Q=D2 K a S H (kIn xs Q):=rfl
@[simp↓]def C99(x:Str)(p:Nh)(kvs:List (S4×V))(a:DE):D2 K (.inK x p kvs a) S H Q=D2 K a S H (kK kvs Q):=rfl
@[simp↓]def C6e(o p:CO)(a b c:DE):D2 K (.chain o p a b c) S H Q=D2 K a S H λx H1=>D2 K b S H1 λy H2=>o.r x y H2 λz H3=>asB z λk=>(if k=true then D2 K c S H3 λw' H4=>p.r y w' H4 Q else Q (.bl false) H3):=rfl
@[simp↓]def C75(k:Bool)(es:DA):D2 K (.bool k es) S H Q=A3a K k es S H Q:=rfl
@[simp↓]def C6h(k:Bool)(e:DE):A3a K k (.c e .z) S H Q=D2 K e S H Q:=rfl
@[simp↓]def C6i(e f:DE)(es:DA):A3a K true (.c e (.c f es)) S H Q=D2 K e S H (kBA K (.c f es) S Q):=rfl
@[simp↓]def C6g(e f:DE)(es:DA):A3a K false (.c e (.c f es)) S H Q=D2 K e S H (kBO K (.c f es) S Q):=rfl
@[simp↓]def D0c(t:DT)(a b:DE):D2 K (.ife t a b) S H Q=A0s K t S H (kIE K a b S Q):=rfl
@[simp↓]def C94(es:DA):D2 K (.lst es) S H Q=A1r K es S H (kLs Q):=rfl
@[simp↓]def C9Y(es:DA):D2 K (.tup es) S H Q=A1r K es S H (kTu Q):=rfl
@[simp↓]def D1o(k:IK)(a b:DE):D2 K (.ix k a b) S H Q=D2 K a S H (kO K (k.r K) b S Q):=rfl
@[simp↓]def C6a:IK.r K .list x y H Q=atL x H (kIx y Q H):=rfl
@[simp↓]def C7N:IK.r K .tup x y H Q=atT x H (kIx y Q H):=rfl
@[simp↓]def C7O:IK.r K .str x y H Q=(asS x λz=>S0 y λi=>z.length<=sizeLine/\A1q (atI z.cps.toList i) λc=>Q (.str ⟨#[c]⟩) H):=rfl
@[simp↓]def C7P:IK.r K .frz x y H Q=atF K x H (kIx y Q H):=rfl
@[simp↓]def C95(x:Str)(p:Nh)(xs:List V)(b:DE):D2 K (.ixG x p xs b) S H Q=D2 K b S H (kIG xs Q):=rfl
@[simp↓]def D1l(k:SK)(a:DE)(lo hi:DO):D2 K (.sl k a lo hi) S H Q=D2 K a S H λx H1=>B3p K lo S H1 λl H2=>B3p K hi S H2 λu H3=>k.r K x l u H3 Q:=rfl
@[simp↓]def C5Q(lo hi:Option Int):SK.r K .list x lo hi H Q=(atL x H λ_ xs=>New H (.lst (A2t xs lo hi)) Q):=rfl
@[simp↓]def C63(lo hi:Option Int):SK.r K .str x lo hi H Q=(asS x λz=>z.length<=sizeLine/\Q (.str (A71 z lo hi)) H):=rfl
@[simp↓]def C64(lo hi:Option Int):SK.r K .frz x lo hi H Q=(atF K x H λ_ xs=>∀p,H p=none->Q (.ref p) (upd H p (.lst (A2t xs lo hi)))):=rfl
@[simp↓]def C74(f:Str)(sp:Sp)(es:DA):D2 K (.f f sp es) S H Q=A1r K es S H (kCl sp Q):=rfl
@[simp↓]def C7Z(f:Str)(C:Nh)(sp:Sp)(es:DA):D2 K (.make f C sp es) S H Q=A1r K es S H (kMk C sp Q):=rfl
@[simp↓]def D0h(b:Bt)(es:DA):D2 K (.blt b es) S H Q=A1r K es S H (kBt (b.r K) Q):=rfl
variable(xs:List V)
@[simp↓]def C6p:Bt.r K .lenL xs H Q=(as1 xs λx=>atL x H (kLn Q H)):=rfl
@[simp↓]def C6n:Bt.r K .lenT xs H Q=(as1 xs λx=>atT x H (kLn Q H)):=rfl
@[simp↓]def C6o:Bt.r K .lenS xs H Q=(as1 xs λx=>asS x λz=>z.length<=sizeLine/\Q (.int z.length) H):=rfl
@[simp↓]def C6q:Bt.r K .lenF xs H Q=(as1 xs λx=>atF K x H (kLn Q H)):=rfl
@[simp↓]def C8q:Bt.r K .abs xs H Q=(as1 xs λx=>S0 x λi=>Q (.int (if i<0 then -i else i)) H):=rfl
@[simp↓]def C8l:Bt.r K .max xs H Q=(as2 xs λx y=>S0 x λi=>S0 y λj=>Q (.int (if j>i then j else i)) H):=rfl
@[simp↓]def C8k:Bt.r K .ord xs H Q=(as1 xs λx=>asS x λz=>z.length=1/\Q (.int (z.cps.getD 0 0:Nat)) H):=rfl
@[simp↓]def C8p:Bt.r K .all xs H Q=(as1 xs λx=>atL x H λ_ ys=>∃bs:List Bool,ys=bs.map V.bl/\Q (.bl (bs.all id)) H):=rfl
@[simp↓]def C8o:Bt.r K .any xs H Q=(as1 xs λx=>atL x H λ_ ys=>∃bs:List Bool,ys=bs.map V.bl/\Q (.bl (bs.any id)) H):=rfl
@[simp↓]def C8j:Bt.r K .str xs H Q=(as1 xs λx=>S0 x λi=>i.natAbs.log2<1920/\Q (.str (toString i)) H):=rfl
@[simp↓]def C8n:Bt.r K .int xs H Q=(as1 xs λx=>asS x λa=>A1q (PySem.intText? a) λn=>a.length<=640/\Q (.int n) H):=rfl
@[simp↓]def C8m:Bt.r K .list xs H Q=(as1 xs λx=>atL x H λ_ ys=>New H (.lst ys) Q):=rfl
@[simp↓]def C5t:Bt.r K .tuple xs H Q=(as1 xs λx=>atL x H λ_ ys=>New H (.tup ys) Q):=rfl
@[simp↓]def C71(x:Str)(p:Nh)(xs:List V):D2 K (.lenG x p xs) S H Q=Q (.int xs.length) H:=rfl
@[simp↓]def C70(e:DE):D2 K (.lrev e) S H Q=D2 K e S H λx H1=>atL x H1 λ_ xs=>New H1 (.lst xs.reverse) Q:=rfl
@[simp↓]def D1m(m:Mt)(o e:DE):D2 K (.mt m o e) S H Q=D2 K o S H (kMt K m e S Q):=rfl
@[simp↓]def C7B:Mt.r .append x y H Q=atL x H (kAp y Q H):=rfl
@[simp↓]def C5X:Mt.r .extL x y H Q=(atL x H λl xs=>atL y H λ_ zs=>xs.length+zs.length<=sizeLine/\Q .non (upd H l (.lst (xs++zs)))):=rfl
@[simp↓]def C5W:Mt.r .extT x y H Q=(atL x H λl xs=>atT y H λ_ zs=>xs.length+zs.length<=sizeLine/\Q .non (upd H l (.lst (xs++zs)))):=rfl
@[simp↓]def C5r(x:Str)(p:Nh)(xs:List Str)(e:DE):D2 K (.indexG x p xs e) S H Q=D2 K e S H λy H1=>asS y λz=>z∈xs/\Q (.int (xs.idxOf z:Nat)) H1:=rfl
@[simp↓]def C90(o:DE):D2 K (.pop o) S H Q=D2 K o S H λx H1=>atL x H1 λl xs=>B9K xs λy ys=>Q y (upd H1 l (.lst ys)):=rfl
@[simp↓]def C73(o e:DE):D2 K (.join o e) S H Q=D2 K o S H λx H1=>asS x λa=>D2 K e S H1 λy H2=>atL y H2 λ_ zs=>∃ys:List Str,zs=ys.map V.str/\(ys.map (·.length)).sum+ys.length*a.length<=16777216/\Q (.str (Txt.join a ys)) H2:=rfl
@[simp↓]def C6d(o:DE):D2 K (.isdig o) S H Q=D2 K o S H λx H1=>asS x λa=>Q (.bl (Txt.isdigit a)) H1:=rfl
@[simp↓]def C5q(o e:DE):D2 K (.starts o e) S H Q=D2 K o S H λx H1=>asS x λa=>D2 K e S H1 λy H2=>asS y λb=>Q (.bl (Txt.startswith a b)) H2:=rfl
@[simp↓]def C72(x:Str)(p:Nh)(kvs:List (S4×V))(e f:DE):D2 K (.kget x p kvs e f) S H Q=D2 K e S H λy H2=>D2 K f S H2 λz H3=>asS y λk=>Q ((P2 kvs (.inr k)).getD z) H3:=rfl
@[simp↓]def D0A(Q:List V->Hp->Prop):A1r K .z S H Q=Q [] H:=rfl
@[simp↓]def C8D(e:DE)(es:DA)(Q:List V->Hp->Prop):A1r K (.c e es) S H Q=D2 K e S H (kC K es S Q):=rfl
@[simp↓]def D0W(Q:Option Int->Hp->Prop):B3p K .no S H Q=Q none H:=rfl
@[simp↓]def C9a(e:DE)(Q:Option Int->Hp->Prop):B3p K (.yes e) S H Q=D2 K e S H λx H1=>S0 x λi=>Q (some i) H1:=rfl
@[simp↓]def t_e(e:DE)(Q:Bool->Hp->Prop):A0s K (.e e) S H Q=D2 K e S H (kTe Q):=rfl
@[simp↓]def C8Y(t:DT)(Q:Bool->Hp->Prop):A0s K (.not t) S H Q=A0s K t S H (kB Q):=rfl
@[simp↓]def C6U(k:Bool)(ts:DTs)(Q:Bool->Hp->Prop):A0s K (.bool k ts) S H Q=A0k K k ts S H Q:=rfl
@[simp↓]def C6Q(k:Bool)(t:DT)(Q:Bool->Hp->Prop):A0k K k (.one t) S H Q=A0s K t S H Q:=rfl
@[simp↓]def C6R(t:DT)(ts:DTs)(Q:Bool->Hp->Prop):A0k K true (.c t ts) S H Q=A0s K t S H (kA K ts S Q):=rfl
@[simp↓]def C8W(t:DT)(ts:DTs)(Q:Bool->Hp->Prop):A0k K false (.c t ts) S H Q=A0s K t S H (kR K ts S Q):=rfl
@[simp↓]def C9X(out:Str):A70 K .z S H out Q=(out.length<=sizeLine/\Q (.str out) H):=rfl
@[simp↓]def C9W(x out:Str)(r:DF):A70 K (.str x r) S H out Q=((out++x).length<=sizeLine/\A70 K r S H (out++x) Q):=rfl
@[simp↓]def C9V(e:DE)(r:DF)(out:Str):A70 K (.val e r) S H out Q=D2 K e S H λv H1=>∃y,v=.str y/\y.length<=sizeLine/\(out++y).length<=sizeLine/\A70 K r S H1 (out++y) Q:=rfl
@[simp↓]def D0e(es:DF):D2 K (.fst es) S H Q=A70 K es S H Str.empty Q:=rfl
@[simp↓]def C7b(e:DE):A3P K (.expr e) D S H=D2 K e S H (kX D S):=rfl
@[simp↓]def C86(e:DE):A3P K (.r e) D S H=D2 K e S H D.rt:=rfl
@[simp↓]def C7a:A3P K .retN D S H=D.rt .non H:=rfl
@[simp↓]def C87(t:DT)(a b:DB):A3P K (.i t a b) D S H=A0s K t S H (kIf K a b D S):=rfl
@[simp↓]def C85(i:Nat)(e:DE):A3P K (.set i e) D S H=D2 K e S H (C44 S i D):=rfl
@[simp↓]def C69(C:Nh)(o:DE)(f:Str)(e:DE):A3P K (.setF C o f e) D S H=D2 K e S H (kSF K C o f D S):=rfl
@[simp↓]def C68(o i e:DE):A3P K (.setI o i e) D S H=D2 K e S H λv H1=>D2 K o S H1 λx H2=>D2 K i S H2 λy H3=>∃p xs k j,x=.ref p/\y=.int k/\H3 p=some (.lst xs)/\ixN xs.length k=some j/\D.nx S (upd H3 p (.lst (xs.set j v))):=rfl
@[simp↓]def C62:J7 K .z D S H=D.nx S H:=rfl
@[simp↓]def C5P(s:DS)(b:DB)(n:St->Hp->Prop)(r:VK)(k c:St->Hp->Prop):J7 K (.c s b) ⟨n,r,k,c⟩ S H=A3P K s ⟨J7 K b ⟨n,r,k,c⟩,r,k,c⟩ S H:=rfl
end
@[simp]def C3S{H:Hp}{a:Nh}{o:HO}:upd H a o a=some o:=A3
@[simp]def C5E{H:Hp}{a:Nh}{o u:HO}:upd (upd H a o) a u=upd H a u:=B3P
@[simp]def D0u{S:Type}(xs:List S):atI xs 0=xs[0]?:=by cases xs<;>simp[atI,ixN]
def M4{S:Type}(xs:List S)(n:Nat):atI xs (n:Int)=xs[n]?:=by
 unfold atI ixN;rw[Gf (Int.natCast_nonneg n)];by_cases h:n<xs.length
 ·rw[Gf (by omega)];simp
 ·rw[Gd (by omega)];simp;omega
@[simp]def D0t{S:Type}(xs:List S):atI xs 1=xs[1]?:=M4 xs 1
@[simp]def D0s{S:Type}(xs:List S):atI xs 2=xs[2]?:=M4 xs 2
@[simp]def D0r{S:Type}(xs:List S):atI xs 3=xs[3]?:=M4 xs 3
def A5.new{H:Hp}{p:Nh}{o:HO}(h:H p=none):A5 H (upd H p o):=λb u e=>by rw[A4 (A2 e h)];exact e
def A5.over{H H':Hp}{p:Nh}{o:HO}(s:A5 H H')(h:H p=none):A5 H (upd H' p o):=λb u e=>by rw[A4 (A2 e h)];exact s _ _ e
def wo(X:List Nh)(H:Hp):Hp:=λa=>if a∈X then none else H a
def B3K(X:List Nh)(H:Hp):A5 (wo X H) H:=λb o e=>by
 unfold wo at e;split at e
 ·cases e
 ·exact e
def A0J{X:List Nh}{H:Hp}{a:Nh}{o:HO}(h:H a=some o)(n:a∉X):wo X H a=some o:=by unfold wo;rw[Gd n];exact h
def A8y{X:List Nh}{H:Hp}{a:Nh}{o:HO}(h:wo X H a=some o):H a=some o/\a∉X:=by
 unfold wo at h;split at h
 ·cases h
 ·rename_i n;exact⟨h,n⟩
def Kp(X:List Nh)(H H':Hp):Prop:=∀b o,H b=some o->b∉X->H' b=some o
theorem Kp.wo{X:List Nh}{H H':Hp}(k:Kp X H H'):A5 (wo X H) (wo X H'):=λb o e=>A0J (k b o (A8y e).1 (A8y e).2) (A8y e).2
def Kp.of{X:List Nh}{H H':Hp}(s:A5 H H'):Kp X H H':=λb o e _=>s b o e
def Kp.refl(X:List Nh)(H:Hp):Kp X H H:=λ_ _ e _=>e
def Kp.trans{X:List Nh}{H H1 H2:Hp}(a:Kp X H H1)(b:Kp X H1 H2):Kp X H H2:=λc o e n=>b c o (a c o e n) n
theorem Kp.upd{X:List Nh}{H H1:Hp}{a:Nh}{o:HO}(k:Kp X H H1)(h:a∈X\/H a=none):Kp X H (upd H1 a o):=λb u e n=>by
 have hb:b≠a:=by
  rintro rfl;rcases h with h|h
  ·exact n h
  ·rw[h]at e;cases e
 rw[A4 hb];exact k b u e n
def Kp.mono{X Y:List Nh}{H H1:Hp}(k:Kp X H H1)(h: ∀a∈X,a∈Y\/H a=none):Kp Y H H1:=λb u e n=>k b u e λhb=>by
 rcases h b hb with h|h
 ·exact n h
 ·rw[h]at e;cases e
def A0g{H H':Hp}{x dx:Nh}{i u:HO}(hx:H x=none)(hd:H dx=none)(hk: ∀b o,upd (upd H dx u) x i b=some o->b≠x->H' b=some o):A5 H H':=λb o e=>by have nx:=A2 e hx;have nd:=A2 e hd;exact hk b o (by rw[A4 nx,A4 nd];exact e) nx
end L2
namespace PP
open PySem PySem.Spec PyProof.Rows L2
def pF(n:Nd)(l:Nh):List (Str×V):=G9 (.str (.ofString n.wd)) (.ref l) (.str (S n.txt)) (.int n.val) (.int n.names) (.int n.last) (.int n.size) (.bl n.plain)
inductive B0(H:Hp):Nh->Nd->Prop
 |mk{a dx l:Nh}{as:List Nh}{n:Nd}(h1:H a=some (.ins ad.A8 dx (pF n l)))(h2:H l=some (.tup (as.map V.ref)))(h3:as.length=n.kids.length)
  (h4: ∀(i:Nat)(b:Nh)(m:Nd),as[i]?=some b->n.kids[i]?=some m->B0 H b m):B0 H a n
def B0.mono{H H':Hp}(s:A5 H H'){a:Nh}{n:Nd}(h:B0 H a n):B0 H' a n:=by
 induction h with
 |mk h1 h2 h3 h4 ih=>exact .mk (s _ _ h1) (s _ _ h2) h3 ih
def B4(H:Hp)(as:List Nh)(ns:List Nd):Prop:=as.length=ns.length/\∀(i:Nat)(b:Nh)(m:Nd),as[i]?=some b->ns[i]?=some m->B0 H b m
def B4.mono{H H':Hp}(s:A5 H H'){as:List Nh}{ns:List Nd}(h:B4 H as ns):B4 H' as ns:=⟨h.1,λi b m x y=>(h.2 i b m x y).mono s⟩
def B4.nil{H:Hp}:B4 H [] []:=⟨rfl,λi b m x _=>by simp at x⟩
def B4.cons{H:Hp}{a:Nh}{n:Nd}{as:List Nh}{ns:List Nd}(h:B0 H a n)(r:B4 H as ns):B4 H (a::as) (n::ns):=
 ⟨by simp[r.1],λi b m x y=>by
  cases i with
  |zero=>simp at x y;subst x y;exact h
  |succ i=>exact r.2 i b m (by simpa using x) (by simpa using y)⟩
def B4.inv{H:Hp}{a:Nh}{n:Nd}{as:List Nh}{ns:List Nd}(h:B4 H (a::as) (n::ns)):B0 H a n/\B4 H as ns:=
 ⟨h.2 0 a n rfl rfl,by have:=h.1;simp at this;exact this,λi b m x y=>h.2 (i+1) b m (by simpa using x) (by simpa using y)⟩
theorem B4.append{H:Hp}: ∀{as bs:List Nh}{ns ms:List Nd},B4 H as ns->B4 H bs ms->B4 H (as++bs) (ns++ms)
 |[],_,[],_,_,h=>h
 |[],_,_::_,_,h,_=>by have:=h.1;simp at this
 |_::_,_,[],_,h,_=>by have:=h.1;simp at this
 |a::as,bs,n::ns,ms,h,k=>.cons h.inv.1 (B4.append h.inv.2 k)
inductive C8I(H:Hp)(a:Nh)(n:Nd):Prop
 |mk(dx l:Nh)(as:List Nh)(_:H a=some (.ins ad.A8 dx (pF n l)))(_:H l=some (.tup (as.map V.ref)))(_:B4 H as n.kids)
def B0.cell{H:Hp}{a:Nh}{n:Nd}(h:B0 H a n):C8I H a n:=by
 cases h with
 |mk h1 h2 h3 h4=>exact⟨_,_,_,h1,h2,h3,h4⟩
def B0.of{H:Hp}{a dx l:Nh}{as:List Nh}{n:Nd}(h1:H a=some (.ins ad.A8 dx (pF n l)))(h2:H l=some (.tup (as.map V.ref)))(h3:B4 H as n.kids):B0 H a n:=.mk h1 h2 h3.1 h3.2
section
variable(n:Nd)(l:Nh)
@[simp↓]def B9X(k:V->Prop):D9 (.ofString "word") (pF n l) k=k (.str (.ofString n.wd)):=by unfold pF;exact B0d ..
@[simp↓]def C4D(k:V->Prop):D9 (.ofString "parts") (pF n l) k=k (.ref l):=by unfold pF;exact A7V ..
@[simp↓]def C5T(k:V->Prop):D9 (.ofString "text") (pF n l) k=k (.str (S n.txt)):=by unfold pF;exact B0e ..
@[simp↓]def C4B(k:V->Prop):D9 (.ofString "value") (pF n l) k=k (.int n.val):=by unfold pF;exact A7T ..
@[simp↓]def C4E(k:V->Prop):D9 (.ofString "names") (pF n l) k=k (.int n.names):=by unfold pF;exact A7W ..
@[simp↓]def C5V(k:V->Prop):D9 (.ofString "last") (pF n l) k=k (.int n.last):=by unfold pF;exact B0g ..
@[simp↓]def C5U(k:V->Prop):D9 (.ofString "size") (pF n l) k=k (.int n.size):=by unfold pF;exact B0f ..
@[simp↓]def C4C(k:V->Prop):D9 (.ofString "plain") (pF n l) k=k (.bl n.plain):=by unfold pF;exact A7U ..
end
def lnS{S:Type}{n:Nat}{C:List S->Prop}(q: ∀a us,us.length=n->C (a::us))(us:List S)(h:us.length=n+1):C us:=by
 cases us with
 |nil=>cases h
 |cons a us=>exact q a us (Nat.succ.inj h)
def ln0{S:Type}{C:List S->Prop}(q:C [])(us:List S)(h:us.length=0):C us:=by rw[List.length_eq_zero_iff.mp h];exact q
def ln1{S:Type}{C:List S->Prop}(q: ∀a,C [a])(us:List S)(h:us.length=1):C us:=lnS (λa=>ln0 (q a)) us h
def ln2{S:Type}{C:List S->Prop}(q: ∀a b,C [a,b])(us:List S)(h:us.length=2):C us:=lnS (λa=>ln1 (q a)) us h
def ln3{S:Type}{C:List S->Prop}(q: ∀a b c,C [a,b,c])(us:List S)(h:us.length=3):C us:=lnS (λa=>ln2 (q a)) us h
def ln4{S:Type}{C:List S->Prop}(q: ∀a b c d,C [a,b,c,d])(us:List S)(h:us.length=4):C us:=lnS (λa=>ln3 (q a)) us h
def ln5{S:Type}{C:List S->Prop}(q: ∀a b c d e,C [a,b,c,d,e])(us:List S)(h:us.length=5):C us:=lnS (λa=>ln4 (q a)) us h
def ln6{S:Type}{C:List S->Prop}(q: ∀a b c d e f,C [a,b,c,d,e,f])(us:List S)(h:us.length=6):C us:=lnS (λa=>ln5 (q a)) us h
def ln7{S:Type}{C:List S->Prop}(q: ∀a b c d e f g,C [a,b,c,d,e,f,g])(us:List S)(h:us.length=7):C us:=lnS (λa=>ln6 (q a)) us h
inductive A8q(C:Nh)(k:Nat)(F:List V->List (Str×V))(vs:List V)(H:Hp)(Q:VK)(E:XK):Prop
 |mk(x dx:Nh)(args:List V)(_:vs=.ref x::args)(_:args.length=k)(_:H x=some (.ins C dx []))(_: ∀H',(∀b o,H b=some o->b≠x->H' b=some o)->H' x=some (.ins C dx (F args))->Q .non H')
noncomputable def B25:List V->List (Str×V)
 |[a,b,c]=>G9 a b c (.int 0) (.int 0) (.int 0) (.int 0) (.bl true)
 |_=>[]
@[simp]def A1J(a b c:V):B25 [a,b,c]=G9 a b c (.int 0) (.int 0) (.int 0) (.int 0) (.bl true):=rfl
variable{P:Nk}{w:World}{K:Fg}{mg:MG}{base:Heap}(T:Txt P w K mg)
def A66(T:Txt P w K mg):Kls P w K mg base 1 "Part" ad.A8 ["self","word","parts","text"] (A8q ad.A8 3 B25):=by
 refine T.C2O.g T (A7p) [] (λ_ _=>trivial) ?_;rintro H _ Q E ⟨x,dx,args,rfl,hl,hx,k⟩
 revert args
 refine ln3 ?_;intro a b c k;refine⟨rfl,?_⟩;simp+decide [A7p,↓Ob hx,D8];exact k _ (λb o e hb=>by rw[A4 hb];exact e) A3
end PP
namespace PP
open PySem PySem.Spec PyProof.Rows L2 TL
def C7{C:Nh}{k:Nat}{F:List V->List (Str×V)}{H1:Hp}{x dx:Nh}{args:List V}{Q:VK}{E:XK}(hx:H1 x=none)(hd:H1 dx=none)(hl:args.length=k)(h: ∀H',A5 H1 H'->H' x=some (.ins C dx (F args))->Q .non H'):A8q C k F (.ref x::args) (upd (upd H1 dx (.own x)) x (.ins C dx [])) Q E:=
 ⟨x,dx,args,rfl,hl,A3,λH' hk hc=>h H' (A0g hx hd hk) hc⟩
theorem A6U: ∀(f n:Nat),n<10^(f+1)->Le (f+1) n=A20 n
 |0,n,h=>by
  have h:n<10:=by simpa using h
  rw[A5Q h];simp[Le,h]
 |f+1,n,h=>by
  unfold Le;by_cases h1:n<10
  ·rw[Gf h1,A5Q h1]
  ·rw[Gd h1,A4j (by lia),A6U f (n/10) (by rw[Ji]at h;lia)]
def A4P{n:Nat}(h:n<10^20):Kv n=A20 n:=A6U 19 n h
def C0J(x:Str):S x.cps.toList=x:=by simp[S]
def B39(z:Int)(h:z.natAbs<10^20):Str.ofString (toString z)=S (Kz z):=by
 unfold Kz
 cases z with
 |ofNat n=>rw[Gd (by simp),A4P (by simpa using h),<-C0J (Str.ofString _)];exact Hm S (A38 n)
 |negSucc n=>
  rw[Gf (Int.negSucc_lt_zero n),A4P (by simp[Int.negSucc_eq]at h ⊢;lia)];have e:toString (Int.negSucc n)="-"++toString (n+1):=rfl;have e2:((-(Int.negSucc n)).toNat)=n+1:=by simp[Int.negSucc_eq]
  rw[e,e2,<-L6];have e3:Kr ("-"++toString (n+1))=45::Kr (toString (n+1)):=by simp[Kr]
  have e4:S (Kr (toString (n+1)))=S (A20 (n+1)):=by rw[L6,<-C0J (Str.ofString _)];exact Hm S (A38 (n+1))
  rw[e3,B8N e4]
inductive C4k(vs:List V)(H:Hp)(Q:VK)(E:XK):Prop
 |mk(z:Int)(_:vs=[.int z])(_:z.natAbs<=999999999)(_: ∀H' r,A5 H H'->B0 H' r (.exp (.num z))->Q (.ref r) H')
inductive C1M(vs:List V)(H:Hp)(Q:VK)(E:XK):Prop
 |mk(k:Nat)(_:vs=[.int k])(_:k<8)(_: ∀H' r,A5 H H'->B0 H' r (.exp (.seen k))->Q (.ref r) H')
inductive C4o(vs:List V)(H:Hp)(Q:VK)(E:XK):Prop
 |mk(d:Nat)(_:vs=[.int d])(_:d<=1000)(_: ∀H' r,A5 H H'->B0 H' r (.day d)->Q (.ref r) H')
inductive C1H(vs:List V)(H:Hp)(Q:VK)(E:XK):Prop
 |mk(u:Nat)(_:vs=[.int u])(_:u<4)(_: ∀H' r,A5 H H'->B0 H' r (.unit u)->Q (.ref r) H')
def C2r(z:Int)(l:Nh):pF (.exp (.num z)) l=G9 (.str (.ofString "number")) (.ref l) (.str (S (Kz z))) (.int z) (.int 0) (.int 0) (.int 0) (.bl true):=by have e:Nd.names (.exp (.num z))=0:=N4.mpr λk _=>rfl;unfold pF;rw[e];rfl
def A4g: ∀k:Fin 8,Ky (λj=>k.val==j)=2^k.val:=by decide+kernel
def B9Z{k:Nat}(h:k<8)(l:Nh):pF (.exp (.seen k)) l=G9 (.str (.ofString "name")) (.ref l) (.str (S [97+k])) (.int k) (.int (2^k:Nat)) (.int 0) (.int 0) (.bl true):=by have e:Nd.names (.exp (.seen k))=2^k:=A4g ⟨k,h⟩;unfold pF;rw[e];rfl
def C2s(d:Nat)(l:Nh):pF (.day d) l=G9 (.str (.ofString "day")) (.ref l) (.str (S (Kv d))) (.int d) (.int 0) (.int d) (.int 0) (.bl true):=by have e:Nd.names (.day d)=0:=N4.mpr λk _=>rfl;unfold pF;rw[e];rfl
def B9Y(u:Nat)(l:Nh):pF (.unit u) l=G9 (.str (.ofString "unit")) (.ref l) (.str (S [65+u])) (.int u) (.int 0) (.int 0) (.int 0) (.bl true):=by have e:Nd.names (.unit u)=0:=N4.mpr λk _=>rfl;unfold pF;rw[e];rfl
def A8E{n:Nat}(h:n<=999999999):n.log2<1920:=by
 by_cases h0:n=0
 ·rw[h0];decide+kernel
 ·exact Jk ((Nat.log2_lt h0).mpr (show n<2^30 by lia)) (by decide)
def B0.leaf{H:Hp}{a dx l:Nh}{n:Nd}(h1:H a=some (.ins ad.A8 dx (pF n l)))(h2:H l=some (.tup []))(h3:n.kids=[]):B0 H a n:=.of (as:=[]) h1 h2 (by rw[h3];exact .nil)
variable{P:Nk}{w:World}{K:Fg}{mg:MG}{base:Heap}(T:Txt P w K mg)
def O7:T.A2I.C T base 3 (C4k):=by refine T.A2I.g T (A2P _) [none] (by nomatch A66 T) ?_;obtain⟨z,rfl,hz,k⟩;simp+decide [A2P];intro p hp;refine⟨A8E hz,λx dx hx hd _=>C7 hx hd rfl λH' s hc=>?_⟩;simp[↓Ob hc,A1J];have s0:=(A5.new hp).trans s;have hx0:=(A5.new hp).free hx;refine k _ _ (s0.over hx0) (.leaf (dx:=dx) (l:=p) ?_ (by rw[A4 (A2 A3 hx)];exact s _ _ A3) rfl);rw[A3,C2r,<-B39 z (by lia)];simp[A1J]
def B2l:T.A5b.C T base 3 (C1M):=by
 refine T.A5b.g T (A5q _) [none] (by nomatch A66 T) ?_;obtain⟨k,rfl,hk,q⟩;simp+decide [A5q];intro p hp;refine gI (i:=.str (S [97+k])) ?_ ?_;rotate_left;simp;refine λx dx hx hd _=>C7 hx hd rfl λH' s hc=>?_;rotate_left
 ·rw[M4]
  match k,hk with
  |0,_=>rfl|1,_=>rfl|2,_=>rfl|3,_=>rfl|4,_=>rfl|5,_=>rfl|6,_=>rfl|7,_=>rfl
 simp[↓Ob hc,A1J];have s0:=(A5.new hp).trans s;have hx0:=(A5.new hp).free hx;refine⟨⟨by lia,by lia,by decide⟩,q _ _ (s0.over hx0) (.leaf (dx:=dx) (l:=p) ?_ (by rw[A4 (A2 A3 hx)];exact s _ _ A3) rfl)⟩;rw[A3,B9Z hk];simp
def A63:T.A6N.C T base 3 (C4o):=by refine T.A6N.g T (A7m _) [none] (by nomatch A66 T) ?_;obtain⟨d,rfl,hz,k⟩;simp+decide [A7m];intro p hp;refine⟨A8E (by lia),λx dx hx hd _=>C7 hx hd rfl λH' s hc=>?_⟩;simp[↓Ob hc,A1J];have s0:=(A5.new hp).trans s;have hx0:=(A5.new hp).free hx;refine k _ _ (s0.over hx0) (.leaf (dx:=dx) (l:=p) ?_ (by rw[A4 (A2 A3 hx)];exact s _ _ A3) rfl);have e:=B39 (d:Int) (by lia);rw[A3,C2s,show Kv d=Kz (d:Int) by simp[Kz];lia,<-e];simp
def B19:T.A4V.C T base 3 (C1H):=by
 refine T.A4V.g T (A5g _) [none] (by nomatch A66 T) ?_;obtain⟨u,rfl,hu,q⟩;simp+decide [A5g];intro p hp;refine gI (i:=.str (S [65+u])) ?_ ?_;rotate_left;simp;refine λx dx hx hd _=>C7 hx hd rfl λH' s hc=>?_;rotate_left
 ·rw[M4]
  match u,hu with
  |0,_=>rfl|1,_=>rfl|2,_=>rfl|3,_=>rfl
 simp[↓Ob hc,A1J];have s0:=(A5.new hp).trans s;have hx0:=(A5.new hp).free hx;refine q _ _ (s0.over hx0) (.leaf (dx:=dx) (l:=p) ?_ (by rw[A4 (A2 A3 hx)];exact s _ _ A3) rfl);rw[A3,B9Y]
end PP
namespace L2
open PySem PySem.Spec PyProof.Rows
def C0P(S:St)(g:Nat):R8 S [g]=S.set g none:=rfl
structure A8d(J:It)(G:Hp->Prop)(xs:List V):Prop where
 go: ∀i H,G H->i<xs.length->J.go i H
 yld: ∀i H x H',G H->i<xs.length->J.yld i H x H'->H'=H/\xs[i]?=some x
 stop: ∀i H,G H->xs.length<=i->J.stop i H
def F3{K:Fg}{a:Nh}{xs:List V}{G:Hp->Prop}(h: ∀H,G H->H a=some (.lst xs)):A8d (Itl K a) G xs:=
 ⟨λi H g hi=>⟨xs,xs[i],sqL (h H g),by simp[hi]⟩,λi H x H' g hi y=>⟨y.1,y.2 xs (sqL (h H g))⟩,λi H g hi=>⟨xs,sqL (h H g),hi⟩⟩
def A3o{K:Fg}{a:Nh}{xs:List V}{G:Hp->Prop}(h: ∀H,G H->SqT K H a xs):A8d (Itt K a) G xs:=
 ⟨λi H g hi=>⟨xs,xs[i],h H g,by simp[hi]⟩,λi H x H' g hi y=>⟨y.1,y.2 xs (h H g)⟩,λi H g hi=>⟨xs,h H g,hi⟩⟩
def B0O{x:Str}{G:Hp->Prop}:A8d (Its x) G (x.cps.toList.map λc=>.str ⟨#[c]⟩):=
 ⟨λi H g hi=>show i<x.cps.size by simpa using hi,λi H y H' g hi q=>by obtain⟨e,c,hc,rfl⟩:=q;refine⟨e,?_⟩;rw[Ha,Kq,hc];rfl,λi H g hi=>show x.cps.size<=i by simpa using hi⟩
def B2F{n:Nat}{G:Hp->Prop}:A8d (Itr 0 n) G ((List.range n).map λk=>.int (k:Nat)):=
 ⟨λi H g hi=>show i<n by simpa using hi,λi H y H' g hi q=>by
  obtain⟨e,rfl⟩:=q;refine⟨e,?_⟩;have hi:i<n:=by simpa using hi
  rw[Ha,List.getElem?_range hi];simp,λi H g hi=>show n<=i by simpa using hi⟩
def C2Y{J:It}{G:Hp->Prop}{xs:List V}(w:A8d J G xs){g:TG}{tb:TS}{D:A0H}{S:St}{H:Hp}(Pv:Nat->St->Hp->Prop)(h0:Pv 0 S H)(hG: ∀i S H,Pv i S H->G H)(hs: ∀i x S H,xs[i]?=some x->Pv i S H->g x S H fun S2 H2=>tb {D with nx:=Pv (i+1),ct:=Pv (i+1),bk:=D.nx} S2 H2)(hd: ∀S H,Pv xs.length S H->D.nx S H):
  ∃W:Nat->Nat->St->Hp->Prop,(∃m,W 0 m S H)/\∀i m S H,W i m S H->
   (J.stop i H/\D.nx S H)\/(J.go i H/\∃N:St->Hp->Prop,(∀S' H',N S' H'->∃m',m'<m/\W (i+1) m' S' H')/\∀x H',J.yld i H x H'->g x S H' fun S2 H2=>tb {D with nx:=N,ct:=N,bk:=D.nx} S2 H2):=by
 refine⟨λi m S H=>m=xs.length -i/\i<=xs.length/\Pv i S H,⟨xs.length,by simp,Il _,h0⟩,?_⟩;rintro i m S H ⟨rfl,hi,p⟩;by_cases hlt:i<xs.length
 ·refine .inr ⟨w.go i H (hG _ _ _ p) hlt,Pv (i+1),fun S' H' p'=>⟨xs.length - (i+1),by lia,rfl,hlt,p'⟩,λx H' y=>?_⟩;obtain⟨e,hy⟩:=w.yld i H x H' (hG _ _ _ p) hlt y;subst e;exact hs i x S _ hy p
 ·have e:i=xs.length:=by lia
  subst e;exact .inl ⟨w.stop _ _ (hG _ _ _ p) (Gi _),hd S H p⟩
def C0f{J:It}{xs:List V}{H1:Hp}(w:A8d J (A5 H1) xs){g:Nat}{tt:TT}{te:TE}{S:St}{vs:List Nat}{Q:VK}{D:Nh}(hD:H1 D=none)(keep:V->Option V)(hv:vs=[g])(hx:xs.length<sizeLine)(turn: ∀x∈xs,∀H',A5 H1 H'->∀(Y:VK)(N:Hp->Prop),(match keep x with|some y=>Y y H'|none=>N H')->tt ((R8 S vs).set g (some x)) H' λb H3=>if b=true then te ((R8 S vs).set g (some x)) H3 Y else N H3)(done:Q (.ref D) (upd H1 D (.lst (xs.filterMap keep)))):
  ∃W:Nat->Nat->Hp->Prop,(∃m,W 0 m (upd H1 D (.lst [])))/\∀i m H,W i m H->
   (J.stop i H/\Q (.ref D) H)\/(J.go i H/\∃Nx:Hp->Prop,(∀H',Nx H'->∃m',m'<m/\W (i+1) m' H')/\∀x H',J.yld i H x H'->Y4 g x (R8 S vs) H' fun S2 H2=>R8 S2 vs=R8 S vs/\tt S2 H2 λb H3=>
    if b=true then te S2 H3 λy H4=>∃acc,H4 D=some (.lst acc)/\acc.length<sizeLine/\Nx (upd H4 D (.lst (acc++[y]))) else Nx H3):=by
 subst hv;have hw: ∀x:V,R8 ((R8 S [g]).set g (some x)) [g]=R8 S [g]:=λx=>by show(((S.set g none).set g (some x)).set g none)=S.set g none;simp
 refine⟨λi m H=>m=xs.length -i/\i<=xs.length/\H=upd H1 D (.lst ((xs.take i).filterMap keep)),⟨xs.length,by simp,Il _,by simp⟩,?_⟩;rintro i m H ⟨rfl,hi,rfl⟩;have sm: ∀o,A5 H1 (upd H1 D o):=λo=>A5.new hD;by_cases hlt:i<xs.length
 ·refine .inr ⟨w.go i _ (sm _) hlt,λH'=>H'=upd H1 D (.lst ((xs.take (i+1)).filterMap keep)),λH' p'=>⟨xs.length - (i+1),by lia,rfl,hlt,p'⟩,λx H' y=>?_⟩;obtain⟨e,hy⟩:=w.yld i _ x H' (sm _) hlt y;subst e;have hm:x∈xs:=Gw hy;have ht:xs.take (i+1)=xs.take i++[x]:=by rw[Hz,hy];rfl
  refine⟨hw x,turn x hm _ (sm _) _ _ ?_⟩;rw[ht,List.filterMap_append]
  cases hk:keep x with
  |none=>simp[hk]
  |some y=>
   refine⟨_,A3,?_,?_⟩
   ·have:((xs.take i).filterMap keep).length<=xs.length:=Hc (List.length_filterMap_le _ _) (by rw[Iv];lia)
    lia
   ·simp[hk]
 ·have e:i=xs.length:=by lia
  subst e;rw[Ho];exact .inl ⟨w.stop _ _ (sm _) (Gi _),done⟩
def C2I{J:It}{G:Hp->Prop}{xs:List V}(w:A8d J G xs){H1:Hp}{g:Nat}{tt:TT}{te:TE}{S:St}{vs:List Nat}{Q:VK}{D:Nh}(hv:vs=[g])(hx:xs.length<sizeLine)(Pv:Nat->List V->Hp->Prop)(h0:Pv 0 [] (upd H1 D (.lst [])))(hG: ∀i acc H,Pv i acc H->G H/\H D=some (.lst acc)/\acc.length<=i)(turn: ∀i x acc H,xs[i]?=some x->Pv i acc H->∀(Y:VK)(N:Hp->Prop),(∀y H',H' D=some (.lst acc)->Pv (i+1) (acc++[y]) (upd H' D (.lst (acc++[y])))->Y y H')->(∀H',Pv (i+1) acc H'->N H')->
   tt ((R8 S vs).set g (some x)) H λb H3=>if b=true then te ((R8 S vs).set g (some x)) H3 Y else N H3)(done: ∀acc H,Pv xs.length acc H->Q (.ref D) H):
  ∃W:Nat->Nat->Hp->Prop,(∃m,W 0 m (upd H1 D (.lst [])))/\∀i m H,W i m H->
   (J.stop i H/\Q (.ref D) H)\/(J.go i H/\∃Nx:Hp->Prop,(∀H',Nx H'->∃m',m'<m/\W (i+1) m' H')/\∀x H',J.yld i H x H'->Y4 g x (R8 S vs) H' fun S2 H2=>R8 S2 vs=R8 S vs/\tt S2 H2 λb H3=>
    if b=true then te S2 H3 λy H4=>∃acc,H4 D=some (.lst acc)/\acc.length<sizeLine/\Nx (upd H4 D (.lst (acc++[y]))) else Nx H3):=by
 subst hv;have hw: ∀x:V,R8 ((R8 S [g]).set g (some x)) [g]=R8 S [g]:=λx=>by show(((S.set g none).set g (some x)).set g none)=S.set g none;simp
 refine⟨λi m H=>m=xs.length -i/\i<=xs.length/\∃acc,Pv i acc H,⟨xs.length,by simp,Il _,[],h0⟩,?_⟩;rintro i m H ⟨rfl,hi,acc,p⟩;obtain⟨gg,hd,hl⟩:=hG i acc H p;by_cases hlt:i<xs.length
 ·refine .inr ⟨w.go i _ gg hlt,λH'=>∃acc,Pv (i+1) acc H',λH' p'=>⟨xs.length - (i+1),by lia,rfl,hlt,p'⟩,λx H' y=>?_⟩;obtain⟨e,hy⟩:=w.yld i _ x H' gg hlt y;subst e;refine⟨hw x,turn i x acc _ hy p _ _ (λy H' h1 h2=>⟨acc,h1,by lia,_,h2⟩) λH' h=>⟨_,h⟩⟩
 ·have e:i=xs.length:=by lia
  subst e;exact .inl ⟨w.stop _ _ gg (Gi _),done acc H p⟩
def lcB(K:Fg)(J:It)(g:Nat)(t:DW)(d:DE)(vs:List Nat)(S:St)(H1:Hp)(Q:VK):Prop:=∀D,H1 D=none->∃W:Nat->Nat->Hp->Prop,(∃m,W 0 m (upd H1 D (.lst [])))/\∀i m H,W i m H->
 (J.stop i H/\Q (.ref D) H)\/(J.go i H/\∃Nx:Hp->Prop,(∀H',Nx H'->∃m',m'<m/\W (i+1) m' H')/\∀x H',J.yld i H x H'->Y4 g x (R8 S vs) H' fun S2 H2=>R8 S2 vs=R8 S vs/\B0k K t S2 H2 λb H3=>
  if b=true then D2 K d S2 H3 λy H4=>∃acc,H4 D=some (.lst acc)/\acc.length<sizeLine/\Nx (upd H4 D (.lst (acc++[y]))) else Nx H3)
def C2Z(K:Fg)(J:It)(g:DG)(b:DB)(D:A0H)(S:St)(H1:Hp):Prop:=∃W:Nat->Nat->St->Hp->Prop,(∃m,W 0 m S H1)/\∀i m S H,W i m S H->
 (J.stop i H/\D.nx S H)\/(J.go i H/\∃N:St->Hp->Prop,(∀S' H',N S' H'->∃m',m'<m/\W (i+1) m' S' H')/\∀x H',J.yld i H x H'->B8k K g x S H' fun S2 H2=>J7 K b {D with nx:=N,ct:=N,bk:=D.nx} S2 H2)
section
variable(K:Fg)(S:St)(H:Hp)(Q:VK)(D:A0H)
@[simp↓]def D1n(own:List (Str×Nat))(g:Nat)(it:DI)(t:DW)(d:DE):D2 K (.lc own g it t d) S H Q=A4x K it S H λJ H1=>lcB K J g t d (own.map (·.2)) S H1 Q:=rfl
@[simp↓]def C5R(i:Nat)(own:List (Str×Nat))(g:Nat)(it:DI)(t:DW)(d:DE):A3P K (.setLc i own g it t d) D S H=A4x K it S H λJ H1=>lcB K J g t d (own.map (·.2)) S H1 λx H1=>A4e S i x fun S'=>D.nx S' H1:=rfl
@[simp↓]def D0M(g:DG)(it:DI)(b:DB):A3P K (.fr g it b) D S H=A4x K it S H λJ H1=>C2Z K J g b D S H1:=rfl
variable(R:It->Hp->Prop)
@[simp↓]def C7R(e:DE):A4x K (.list e) S H R=D2 K e S H λx H1=>atL x H1 λa _=>R (Itl K a) H1:=rfl
@[simp↓]def C9T(e:DE):A4x K (.tup e) S H R=D2 K e S H λx H1=>atT x H1 λa _=>R (Itt K a) H1:=rfl
@[simp↓]def C7Q(x:Str)(p:Nh)(xs:List V):A4x K (.tupG x p xs) S H R=R (Itt K p) H:=rfl
@[simp↓]def C9U(e:DE):A4x K (.str e) S H R=D2 K e S H λv H1=>asS v λx=>R (Its x) H1:=by show(D2 K e S H λv H1=>∃x:Str,v=.str x/\R (Its x) H1)=_;congr 1;funext v H1;rw[B8I]
@[simp↓]def C6b(e:DE):A4x K (.range e) S H R=D2 K e S H λv H1=>S0 v λj=> -(2^62)<=j/\j<2^62/\R (Itr 0 j.toNat) H1:=by show(D2 K e S H λv H1=>∃j:Int,[v]=[.int j]/\ -(2^62)<=j/\j<2^62/\R (Itr 0 j.toNat) H1)=_;congr 1;funext v H1;rw[B3F];simp
@[simp↓]def C6c(e:DE):A4x K (.enums e) S H R=D2 K e S H λv H1=>asS v λx=>x.cps.all (· <128)=true/\R (B8P x) H1:=by show(D2 K e S H λv H1=>∃x:Str,[v]=[.str x]/\x.cps.all (· <128)=true/\R (B8P x) H1)=_;congr 1;funext v H1;rw[B8I];simp
@[simp↓]def C8U(Q:Bool->Hp->Prop):B0k K .z S H Q=Q true H:=rfl
@[simp↓]def B3N(t:DT)(Q:Bool->Hp->Prop):B0k K (.one t) S H Q=A0s K t S H Q:=rfl
@[simp↓]def C7U(i:Nat)(v:V)(Q:St->Hp->Prop):B8k K (.name i) v S H Q=A4e S i v fun S'=>Q S' H:=rfl
end
def A0S{K:Fg}{J:It}{xs:List V}{g:Nat}{t:DW}{d:DE}{S:St}{H1:Hp}{Q:VK}(w:A8d J (A5 H1) xs)(keep:V->Option V)(hx:xs.length<sizeLine)(turn: ∀x∈xs,∀H',A5 H1 H'->∀(Y:VK)(N:Hp->Prop),(match keep x with|some y=>Y y H'|none=>N H')->A4e S g x fun S'=>B0k K t S' H' λb H3=>if b=true then D2 K d S' H3 Y else N H3)(done: ∀D,H1 D=none->Q (.ref D) (upd H1 D (.lst (xs.filterMap keep)))):lcB K J g t d [g] S H1 Q:=λD hD=>C0f w hD keep rfl hx (λx h1 H' h2 Y N h3=>by have:=turn x h1 H' h2 Y N h3;rw[C0P,List.set_set];exact this) (done D hD)
def A09{K:Fg}{J:It}{G:Hp->Prop}{xs:List V}{g:Nat}{t:DW}{d:DE}{S:St}{H1:Hp}{Q:VK}(w:A8d J G xs)(hx:xs.length<sizeLine)(Pv:Nh->Nat->List V->Hp->Prop)(h0: ∀D,H1 D=none->Pv D 0 [] (upd H1 D (.lst [])))(hG: ∀D i acc H,Pv D i acc H->G H/\H D=some (.lst acc)/\acc.length<=i)(turn: ∀D i x acc H,H1 D=none->xs[i]?=some x->Pv D i acc H->∀(Y:VK)(N:Hp->Prop),(∀y H',H' D=some (.lst acc)->Pv D (i+1) (acc++[y]) (upd H' D (.lst (acc++[y])))->Y y H')->(∀H',Pv D (i+1) acc H'->N H')->
   A4e S g x fun S'=>B0k K t S' H λb H3=>if b=true then D2 K d S' H3 Y else N H3)(done: ∀D acc H,H1 D=none->Pv D xs.length acc H->Q (.ref D) H):lcB K J g t d [g] S H1 Q:=λD hD=>C2I w rfl hx (Pv D) (h0 D hD) (hG D) (λi x acc H a b Y N c e=>by have:=turn D i x acc H hD a b Y N c e;rw[C0P,List.set_set];exact this) λacc H p=>done D acc H hD p
def Y9{K:Fg}{J:It}{G:Hp->Prop}{xs:List V}{g:DG}{b:DB}{D:A0H}{S:St}{H:Hp}(w:A8d J G xs)(Pv:Nat->St->Hp->Prop)(h0:Pv 0 S H)(hG: ∀i S H,Pv i S H->G H)(hs: ∀i x S H,xs[i]?=some x->Pv i S H->∀N:St->Hp->Prop,(∀S' H',Pv (i+1) S' H'->N S' H')->B8k K g x S H fun S2 H2=>J7 K b {D with nx:=N,ct:=N,bk:=D.nx} S2 H2)(hd: ∀S H,Pv xs.length S H->D.nx S H):C2Z K J g b D S H:=
 C2Y w Pv h0 hG (λi x S H h p=>hs i x S H h p (Pv (i+1)) λ_ _ q=>q) hd
def whB(K:Fg)(t:DT)(b:DB)(D:A0H)(S:St)(H:Hp):Prop:=B2P (A0s K t) (J7 K b) D S H
@[simp↓]def C84(K:Fg)(S:St)(H:Hp)(D:A0H)(t:DT)(b:DB):A3P K (.whl t b) D S H=whB K t b D S H:=rfl
def B6h{K:Fg}{t:DT}{b:DB}{D:A0H}{S:St}{H:Hp}(Pv:Nat->St->Hp->Prop)(m0:Nat)(h0:Pv m0 S H)(turn: ∀m S H,Pv m S H->A0s K t S H λc H1=>if c=true then ∃N:St->Hp->Prop,(∀S' H',N S' H'->∃m',m'<m/\Pv m' S' H')/\J7 K b {D with nx:=N,ct:=N,bk:=D.nx} S H1 else D.nx S H1):whB K t b D S H:=
 ⟨Pv,⟨m0,h0⟩,turn⟩
def A9C{K:Fg}{t:DT}{b:DB}{D:A0H}{S:St}{H:Hp}(Pv:Nat->St->Hp->Prop)(m0:Nat)(h0:Pv m0 S H)(turn: ∀m S H,Pv m S H->∃c:Bool,(∀Q:Bool->Hp->Prop,Q c H->A0s K t S H Q)/\
   ((c=true/\∀N:St->Hp->Prop,(∀m' S' H',m'<m->Pv m' S' H'->N S' H')->J7 K b {D with nx:=N,ct:=N,bk:=D.nx} S H)\/(c=false/\D.nx S H))):whB K t b D S H:=by
 refine B6h Pv m0 h0 λm S H p=>?_;obtain⟨c,ht,h⟩:=turn m S H p;refine ht _ ?_;rcases h with⟨rfl,h⟩|⟨rfl,h⟩
 ·rw[Gf rfl];exact⟨fun S' H'=>∃m',m'<m/\Pv m' S' H',λ_ _ q=>q,h _ λm' S' H' h1 h2=>⟨m',h1,h2⟩⟩
 ·rw[Gd (by decide)];exact h
@[simp]def C8x{S:Type}(xs:List S):atI xs (-1)=xs.getLast?:=by
 cases h:xs.reverse with
 |nil=>
  have:xs=[]:=by simpa using h
  subst this;rfl
 |cons x r=>
  have:xs=r.reverse++[x]:=by have:=Hm List.reverse h;simpa using this
  subst this;rw[B8G];simp
@[simp]def C1g(a b:Str):eqV (.str a) (.str b)=decide (a=b):=rfl
@[simp]def C7W(a:Int):Y5 (.int a)=true:=rfl
@[simp]def C7V(a:Str):Y5 (.str a)=true:=rfl
end L2
namespace PP
open PySem PySem.Spec PyProof.Rows L2 TL
def A6c{as:List Nh}{i:Nat}{v:V}(h:(as.map V.ref)[i]?=some v): ∃a,as[i]?=some a/\v=.ref a:=by
 rw[Ha]at h
 cases e:as[i]? with
 |none=>rw[e]at h;cases h
 |some a=>rw[e]at h;exact⟨a,rfl,(Hf h).symm⟩
def B4.get{H:Hp}{as:List Nh}{ns:List Nd}(h:B4 H as ns){i:Nat}{a:Nh}(e:as[i]?=some a): ∃n,ns[i]?=some n/\B0 H a n:=by
 have hi:i<ns.length:=by rw[<-h.1];exact(Hl.mp e).1
 exact⟨ns[i],by simp[hi],h.2 i a _ e (by simp[hi])⟩
def B4.mem{H:Hp}{as:List Nh}{ns:List Nd}(h:B4 H as ns){a:Nh}(e:a∈as): ∃n∈ns,B0 H a n:=by obtain⟨i,hi⟩:=List.mem_iff_getElem?.mp e;obtain⟨n,h1,h2⟩:=h.get hi;exact⟨n,Gw h1,h2⟩
theorem A6w: ∀l:List (List Nat),A4S [44] l=N1 l
 |[]=>rfl
 |[_]=>rfl
 |x::y::r=>by show x++([44]++A4S [44] (y::r))=x++[44]++N1 (y::r);rw[A6w (y::r),Hq]
def B7N(l:List (List Nat)):Txt.join (",":Str) (l.map S)=S (N1 l):=by
 rw[B4h,<-C0J (Str.join _ _)];show S (tl _)=_;rw[A9F,Iu,<-A6w];have e:(l.map (tl∘S))=l:=by
  have:(tl∘S)=id:=by funext x;simp[S,tl]
  rw[this,List.map_id]
 have e2:tl (",":Str)=[44]:=by decide+kernel
 rw[e,e2]
theorem B4.texts{H:Hp}: ∀{as:List Nh}{ns:List Nd},B4 H as ns->∀f:V->Option V,(∀a n,B0 H a n->f (.ref a)=some (.str (S n.txt)))->(as.map V.ref).filterMap f=((ns.map Nd.txt).map S).map V.str
 |[],[],_,_,_=>rfl
 |[],_::_,h,_,_=>by have:=h.1;simp at this
 |_::_,[],h,_,_=>by have:=h.1;simp at this
 |a::as,n::ns,h,f,hf=>by rw[Gm,Ib,hf a n h.inv.1,B4.texts h.inv.2 f hf];rfl
theorem A8I: ∀(l:List (List Nat))(m:Nat),(∀x∈l,x.length<=m)->(N1 l).length<=l.length*(m+1)
 |[],_,_=>by simp[N1]
 |[x],m,h=>by simp[N1];have:=h x (by simp);lia
 |x::y::r,m,h=>by
  have:=A8I (y::r) m (λz hz=>h z (Gh _ hz));have h1:=h x (by simp);dsimp[N1,Gg,Ge,Gr]at this ⊢;rw[Nat.add_mul]
  lia
noncomputable def B6w(H:Hp)(v:V):Option V:=match v with
 |.ref a=>match H a with
  |some (.ins _ _ fs)=>fs.lookup (.ofString "text")
  |_=>none
 |_=>none
def B0U{H:Hp}{a:Nh}{n:Nd}(h:B0 H a n):B6w H (.ref a)=some (.str (S n.txt)):=by obtain⟨dx,l,as,h1,_⟩:=h.cell;simp[B6w,h1,pF,A95]
inductive B6J(vs:List V)(H:Hp)(Q:VK)(E:XK):Prop
 |mk(w:String)(l:Nh)(as:List Nh)(ns:List Nd)(_:vs=[.str (.ofString w),.ref l])(_:H l=some (.tup (as.map V.ref)))(_:B4 H as ns)(_:ns.length<=3)(_:w.length<=20)(_:(∀n∈ns,n.txt.length<=20000))(_: ∀H',A5 H H'->Q (.str (S (if ns=[] then Kr w else Kr w++[40]++N1 (ns.map Nd.txt)++[41]))) H')
def B9d(w:String):(Kr w).length=w.length:=by simp[Kr,String.length_toList]
def C0v:Str.empty=S []:=rfl
def B24:("(":Str)=S [40]:=by rw[<-L6];rfl
def B23:(")":Str)=S [41]:=by rw[<-L6];rfl
variable{P:Nk}{w:World}{K:Fg}{mg:MG}{base:Heap}(T:Txt P w K mg)
def B5K:T.A8L.C T base 1 (B6J):=by
 refine T.A8L.g (N:=["word","parts","inner","part"]) T (A9b) [none,none] (λ_ _=>trivial) ?_;obtain⟨w,l,as,ns,rfl,hl,hp,h3,hw,ht,k⟩;simp[A9b,↓Tp hl];have hlen:=hp.1;by_cases h0:as=[]
 ·subst h0;have hn:ns=[]:=by simpa using hlen.symm
  subst hn;rw[Gf rfl,<-L6];simpa using k H (A5.refl H)
 ·have hn:ns≠[]:=by rintro rfl;simp at hlen;exact h0 hlen
  rw[Gd h0];refine A0S (A3o λH' s=>sqT (s _ _ hl)) (B6w H) (by simp[sizeLine_eq];lia) ?_ λD hD=>?_
  ·intro x hx H' s Y N q;obtain⟨a,ha,rfl⟩:=Ip.mp hx;obtain⟨n,hn,pa⟩:=hp.mem ha;rw[B0U pa]at q;obtain⟨dx,l',as',h1,_⟩:=pa.cell;simp[↓Ob (s _ _ h1)];exact q
  ·have hx: ∀x∈ns.map Nd.txt,x.length<=20000:=by simpa using ht
   have hi:=A8I (ns.map Nd.txt) 20000 hx;rw[Gz]at hi;have hw':(Kr w).length<=20:=by rw[B9d];exact hw
   rw[hp.texts _ λa n h=>B0U h];simp;refine⟨(ns.map Nd.txt).map S,by simp,?_,?_⟩
   ·have: ∀l:List (List Nat),(∀x∈l,x.length<=20000)->((l.map S).map (·.length)).sum<=l.length*20000:=by
     intro l
     induction l with
     |nil=>intro _;simp
     |cons x r ih=>
      intro h;have h1:=ih λz hz=>h z (Gh _ hz);have h2:=h x (by simp);dsimp[Gm,List.sum_cons,P1,Ge]at h1 ⊢
      lia
    have h1:=this _ hx;have h2:(",":Str).length=1:=by decide+kernel
    rw[h2];dsimp[Gz]at h1 ⊢
    lia
   ·rw[B7N,C0v,B24,B23,<-L6 w];dsimp[C5w,P1,sizeLine_eq,Gg,Ge,Gr,Iq];refine⟨by lia,by lia,by lia,by lia,by lia,by lia,?_⟩;have k2: ∀H',A5 H H'->Q (.str (S (Kr w++[40]++N1 (ns.map Nd.txt)++[41]))) H':=λH' s=>by have:=k H' s;rw[Gd hn]at this;exact this
    exact k2 _ (A5.new hD)
inductive U8(vs:List V)(H:Hp)(Q:VK)(E:XK):Prop
 |mk(n:Nd)(l:Nh)(as:List Nh)(_:vs=[.str (.ofString n.wd),.ref l])(_:n.made=true)(_:H l=some (.tup (as.map V.ref)))(_:B4 H as n.kids)(_:(∀m∈n.kids,m.txt.length<=20000))(_: ∀H' r,A5 H H'->B0 H' r n->Q (.ref r) H')
def Nd.kids3(n:Nd):n.kids.length<=3:=by
 cases n with
 |con c=>cases c<;>simp[Nd.kids]
 |cnd c=>cases c<;>simp[Nd.kids]
 |exp c=>cases c<;>simp[Nd.kids]
 |day d=>simp[Nd.kids]
 |unit d=>simp[Nd.kids]
def Nd.wd20(n:Nd):n.wd.length<=20:=by
 cases n with
 |con c=>cases c<;>(simp[Nd.wd];decide)
 |cnd c=>cases c<;>(simp[Nd.wd];decide)
 |exp c=>cases c<;>(simp[Nd.wd];decide)
 |day d=>(simp[Nd.wd];decide)
 |unit d=>(simp[Nd.wd];decide)
def Nd.inPromises{n:Nd}(h:n.made=true):(P2 [(Sum.inr ("nothing":Str),V.str ("":Str)),(.inr (.ofString "one"),.str (.ofString "u")),(.inr (.ofString "both"),.str (.ofString "cc")),(.inr (.ofString "or"),.str (.ofString "cc")),(.inr (.ofString "turn"),.str (.ofString "c")),(.inr (.ofString "times"),.str (.ofString "xc")),(.inr (.ofString "if"),.str (.ofString "pcc")),(.inr (.ofString "at"),.str (.ofString "dc")),(.inr (.ofString "when"),.str (.ofString "dpc")),(.inr (.ofString "any"),.str (.ofString "dc"))] (Sum.inr (.ofString n.wd):S4)).isSome=n.isCon:=by
 cases n with
 |con c=>cases c<;>kernel_rfl
 |cnd c=>cases c<;>kernel_rfl
 |exp c=>cases c<;>first|exact nf h|kernel_rfl
 |day d=>exact nf h
 |unit d=>exact nf h
def A1z{S:Type}{l:List S}{i:Nat}{x:S}(h:l[i]?=some x):l.take (i+1)=l.take i++[x]:=by rw[Hz,h];rfl
def gF(n:Nd)(l:Nh)(ms:List Nd):List (Str×V):=G9 (.str (.ofString n.wd)) (.ref l) (.str (S n.txt)) (.int 0) (.int (Ky λk=>ms.any (·.nm k))) (.int (ms.foldl (λa m=>max a m.last) 0:Nat)) (.int (ms.foldl (λa m=>a+m.size) 0:Nat)) (.bl (ms.foldl (λa m=>a&&m.plain) true))
def B7E(a b:Nat):(if a<b then(b:Int) else(a:Int))=((max a b:Nat):Int):=by split<;>lia
def O5:T.B1V.C T base 3 (U8):=by
 refine T.B1V.g T (B2w _ _) [none,none] (by nomatch A66 T,B5K T) ?_;obtain⟨n,l,as,rfl,hm,hl,hp,ht,k⟩;simp[B2w];refine⟨n.wd,l,as,n.kids,rfl,hl,hp,n.kids3,n.wd20,ht,λH1 s1=>?_⟩;rw[<-Nd.txt_made hm];intro x dx hx hd _;refine C7 hx hd rfl λH2 s2 hc=>?_;have s12:=s1.trans s2;have hx0:H x=none:=s1.free hx;simp[↓Tp (s12 _ _ hl)]
 refine Y9 (G:=A5 H) (xs:=as.map V.ref) (A3o λH' s=>sqT (s _ _ hl)) (λi J H'=>∃v:Option V,J=[some (.str (.ofString n.wd)),some (.ref l),some (.ref x),v]/\A5 H H'/\H' x=some (.ins ad.A8 dx (gF n l (n.kids.take i))))
  ⟨none,rfl,s12,?_⟩ (λi J H' ⟨_,_,h,_⟩=>h) ?_ ?_
 ·rw[hc];have:(Ky λk=>([]:List Nd).any (·.nm k))=0:=N4.mpr λ_ _=>rfl;show some (HO.ins ad.A8 dx (B25 _))=some (HO.ins ad.A8 dx (gF n l []));unfold gF;rw[this];rfl
 ·rintro i v J H' hv ⟨v3,rfl,s,hx'⟩ N hN;obtain⟨a,ha,rfl⟩:=A6c hv;obtain⟨m,hm',pa⟩:=hp.get ha;obtain⟨da,la,as',h1,_⟩:=pa.cell;have nax:a≠x:=A2 h1 hx0;have h1':=s _ _ h1;have hb:Builtin.bitOr (Ky λk=>(n.kids.take i).any (·.nm k):Nat) (m.names:Int)=((Ky λk=>(n.kids.take (i+1)).any (·.nm k):Nat):Int):=by rw[A4D];unfold Nd.names;rw[B0D,A1z hm'];simp
  have hg:gF n l (n.kids.take (i+1))=G9 (.str (.ofString n.wd)) (.ref l) (.str (S n.txt)) (.int 0) (.int (Ky λk=>(n.kids.take (i+1)).any (·.nm k))) (.int (max ((n.kids.take i).foldl (λa m=>max a m.last) 0) m.last:Nat)) (.int ((n.kids.take i).foldl (λa m=>a+m.size) 0+m.size:Nat)) (.bl ((n.kids.take i).foldl (λa m=>a&&m.plain) true&&m.plain)):=by unfold gF;rw[A1z hm'];simp[Kb]
  rw[hg,<-hb]at hN;unfold gF at hx';generalize (Ky λk=>(n.kids.take i).any (·.nm k))=B at hx' hN ⊢;generalize ((n.kids.take i).foldl (λa m=>max a m.last) 0)=L at hx' hN ⊢;generalize ((n.kids.take i).foldl (λa m=>a+m.size) 0)=Z at hx' hN ⊢;generalize ((n.kids.take i).foldl (λa m=>a&&m.plain) true)=F at hx' hN ⊢;simp[↓Ob hx',↓N0 nax,↓Ob h1',B7E]
  cases F with
  |false=>simp;exact hN _ _ ⟨_,rfl,s.over hx0,by simp[B7E]⟩
  |true=>simp;exact hN _ _ ⟨_,rfl,s.over hx0,by simp[B7E]⟩
 ·rintro J H' ⟨v3,rfl,s,hx'⟩;rw[Gz,hp.1,Ho]at hx';have P3: ∀H'',A5 H H''->H'' x=some (.ins ad.A8 dx (pF n l))->Q (.ref x) H'':=λH'' s' h=>k H'' x s' (.of h (s' _ _ hl) (hp.mono s'));have hF:pF n l=G9 (.str (.ofString n.wd)) (.ref l) (.str (S n.txt)) (.int 0) (.int (Ky λk=>n.kids.any (·.nm k))) (.int (n.kids.foldl (λa m=>max a m.last) 0:Nat)) (.int (n.kids.foldl (λa m=>a+m.size) 0+(if n.isCon then 1 else 0):Nat)) (.bl (n.kids.foldl (λa m=>a&&m.plain) true&&!(n.wd=="or"||n.wd=="any"))):=by
   have e:n.names=Ky λk=>n.kids.any (·.nm k):=by unfold Nd.names;exact A3d λk _=>Nd.nm_made hm k
   unfold pF;rw[<-Nd.last_made hm,<-Nd.size_made hm,<-Nd.plain_made hm,<-e,Nd.val_made hm]
  rw[hF]at P3;unfold gF at hx';have hI:=Nd.inPromises hm;simp[↓Ob hx',hI];by_cases h1:n.isCon=true
  ·rw[Gf h1];by_cases h2:n.wd="or"
   ·rw[Gf h2];exact P3 _ (s.over hx0) (by simp[h1,h2])
   ·rw[Gd h2];by_cases h3:n.wd="any"
    ·rw[Gf h3];exact P3 _ (s.over hx0) (by simp[h1,h3])
    ·rw[Gd h3];exact P3 _ (s.over hx0) (by simp[h1,beq_eq_false_iff_ne.mpr h2,beq_eq_false_iff_ne.mpr h3])
  ·rw[Gd h1];by_cases h2:n.wd="or"
   ·rw[Gf h2];exact P3 _ (s.over hx0) (by simp[h1,h2])
   ·rw[Gd h2];by_cases h3:n.wd="any"
    ·rw[Gf h3];exact P3 _ (s.over hx0) (by simp[h1,h3])
    ·rw[Gd h3];exact P3 _ s (by simp[hx',h1,beq_eq_false_iff_ne.mpr h2,beq_eq_false_iff_ne.mpr h3])
inductive InI(a t f:Nh)(n:Nd)(H:Hp)(m:Nat)(S:L2.St)(H':Hp):Prop
 |mk(v:Option V)(as bs:List Nh)(ts fs:List Nd)(_:S=[some (.ref a),some (.ref t),some (.ref f),v])(_:A5 H H')(_:H' t=some (.lst (as.map V.ref)))(_:H' f=some (.lst (bs.map V.ref)))(_:B4 H as ts)(_:B4 H bs fs)(_:fs++ts.reverse.flatMap Nd.pre=n.pre)(_:m=(ts.reverse.flatMap Nd.pre).length):InI a t f n H m S H'
inductive B9p(vs:List V)(H:Hp)(Q:VK)(E:XK):Prop
 |mk(a:Nh)(n:Nd)(_:vs=[.ref a])(_:B0 H a n)(_:n.post.length<=1000000)(_: ∀H' l as,A5 H H'->H' l=some (.lst (as.map V.ref))->B4 H' as n.post->Q (.ref l) H')
theorem B4.rev{H:Hp}: ∀{as:List Nh}{ns:List Nd},B4 H as ns->B4 H as.reverse ns.reverse
 |[],[],h=>h
 |[],_::_,h=>by have:=h.1;simp at this
 |_::_,[],h=>by have:=h.1;simp at this
 |a::as,n::ns,h=>by dsimp[Iy];exact(B4.rev h.inv.2).append (.cons h.inv.1 .nil)
def B4.last{H:Hp}{as:List Nh}{n:Nd}{ms:List Nd}(h:B4 H as (ms++[n])): ∃a bs,as=bs++[a]/\B0 H a n/\B4 H bs ms:=by
 have r:=h.rev;dsimp[Jv,Iy,Kf,Iq,Jr]at r
 cases e:as.reverse with
 |nil=>rw[e]at r;have:=r.1;simp at this
 |cons a bs=>
  rw[e]at r;refine⟨a,bs.reverse,?_,r.inv.1,?_⟩
  ·have:=Hm List.reverse e;simpa using this
  ·have:=r.inv.2.rev;simpa using this
theorem B1O: ∀ts:List Nd,ts.length<=(ts.flatMap Nd.pre).length
 |[]=>by simp
 |t::ts=>by
  have:=B1O ts;have h:=Nd.pre_eq t;dsimp[Ic,Gg,h,Ge]
  lia
def A2O:T.A2K.C T base 1 (B9p):=by
 refine T.A2K.g T (A2R) [none,none,none] (λ_ _=>trivial) ?_;obtain⟨a,n,rfl,ha,hn,k⟩;simp[A2R];refine⟨by decide,λt ht=>?_⟩;simp;intro f hf;have s1:A5 H (upd H t (.lst [.ref a])):=A5.new ht;have s2:A5 H (upd (upd H t (.lst [.ref a])) f (.lst [])):=s1.over (s1.free hf);have ntf:t≠f:=A2 A3 hf;have hf0:=s1.free hf;refine A9C (InI a t f n H) _ ⟨none,[a],[],[n],[],rfl,s2,?_,A3,.cons ha .nil,.nil,by simp,rfl⟩ ?_
 ·rw[A4 ntf];exact A3
 ·rintro m S H' ⟨v,as,bs,ts,fs,rfl,s,h1,h2,p1,p2,he,rfl⟩;have hlen:fs.length+(ts.reverse.flatMap Nd.pre).length<=1000000:=by have:=Hm List.length he;rw[Gg]at this;rw[this];unfold Nd.pre;simpa using hn
  by_cases h0:as=[]
  ·subst h0;have hts:ts=[]:=by have:=p1.1;simpa using this.symm
   subst hts;simp at he;subst he;refine⟨false,λQ q=>by simpa[↓Ls h1] using q,.inr ⟨rfl,?_⟩⟩;simp[↓Ls h2];intro l hl;have sl:=A5.new (o:=.lst (bs.map V.ref).reverse) hl;refine k _ l bs.reverse (s.trans sl) (by simp) ?_;have:=(p2.rev).mono (s.trans sl);unfold Nd.pre at this;simpa using this
  ·have hts:ts≠[]:=by rintro rfl;have:=p1.1;simp at this;exact h0 this
   obtain⟨ms,x,rfl⟩: ∃ms x,ts=ms++[x]:=⟨ts.dropLast,ts.getLast hts,(Jd hts).symm⟩
   obtain⟨c,cs,rfl,pc,Y3⟩:=p1.last;obtain⟨dx,l,ks,c1,c2,c3⟩:=pc.cell;have hx:=Nd.pre_eq x;have sb: ∀o u,A5 H (upd (upd H' t o) f u):=λo u=>(s.over ht).over hf0;refine⟨true,λQ q=>by simpa[↓Ls h1] using q,.inl ⟨rfl,λN hN=>?_⟩⟩;simp[↓Ls h1,↓Lsn ntf.symm,↓Lsn ntf,↓iLn ntf.symm,↓iLn ntf,↓iL h2,↓Ls h2,↓Ob (sb _ _ _ _ c1),↓Tp (sb _ _ _ _ c2)];have e1:bs.length=fs.length:=p2.1;have e2:cs.length=ms.length:=Y3.1;have e3:ks.length<=3:=by rw[c3.1];exact x.kids3
   have e4:ms.length<=((ms++[x]).reverse.flatMap Nd.pre).length:=by
    dsimp[Jv,Iy,Kf,Iq,Jr,Ic,Gg];have:=B1O ms.reverse;simp at this ⊢
    lia
   rw[show sizeLine=16777216 from rfl];refine⟨by lia,by lia,hN _ _ _ ?_ ⟨_,cs++ks,bs++[c],ms++x.kids,fs++[x],rfl,(sb _ _).over ht,by simp,?_,Y3.append c3,p2.append (.cons pc .nil),?_,rfl⟩⟩
   ·dsimp[Jv,Iy,Kf,Iq,Jr,Ic,List.flatMap_append,Gg,hx,Ge]
    lia
   ·rw[A4 ntf.symm,A3];simp
   ·rw[<-he];simp[hx]
noncomputable def Z0(f:Nat->Int):Exp->Int
 |.num z=>z
 |.seen k=>f k
 |.add a b=>Z0 f a+Z0 f b
 |.sub a b=>Z0 f a -Z0 f b
 |.mul a b=>Z0 f a*Z0 f b
noncomputable def evB(f:Nat->Int):Cond->Bool
 |.le a b=>decide (Z0 f a<=Z0 f b)
 |.lt a b=>decide (Z0 f a<Z0 f b)
 |.not_ a=>!evB f a
 |.all_ a b=>evB f a&&evB f b
 |.some_ a b=>evB f a||evB f b
noncomputable def O3:Exp->Bool
 |.num z=>decide (z.natAbs<=999999999)
 |.seen k=>decide (k<8)
 |.add a b=>O3 a&&O3 b
 |.sub a b=>O3 a&&O3 b
 |.mul a b=>O3 a&&O3 b
noncomputable def V5:Cond->Bool
 |.le a b=>O3 a&&O3 b
 |.lt a b=>O3 a&&O3 b
 |.not_ a=>V5 a
 |.all_ a b=>V5 a&&V5 b
 |.some_ a b=>V5 a&&V5 b
noncomputable def E5:Con->Bool
 |.nothing=>true
 |.one u=>decide (u<4)
 |.both a b=>E5 a&&E5 b
 |.or_ a b=>E5 a&&E5 b
 |.turn a=>E5 a
 |.times e a=>O3 e&&E5 a
 |.if_ b x y=>V5 b&&E5 x&&E5 y
 |.at_ d a=>decide (d<=1000)&&E5 a
 |.when_ d b a=>decide (d<=1000)&&V5 b&&E5 a
 |.any_ d a=>decide (d<=1000)&&E5 a
def Nd.wf:Nd->Bool
 |.con c=>E5 c|.cnd b=>V5 b|.exp e=>O3 e|.day d=>decide (d<=1000)|.unit u=>decide (u<4)
def lvE:Exp->Nat
 |.num _=>1
 |.seen _=>1
 |.add a b=>lvE a+lvE b
 |.sub a b=>lvE a+lvE b
 |.mul a b=>lvE a+lvE b
theorem A08: ∀e,1<=lvE e
 |.num _=>Gi _
 |.seen _=>Gi _
 |.add a b=>by have:=A08 a;dsimp[lvE];lia
 |.sub a b=>by have:=A08 a;dsimp[lvE];lia
 |.mul a b=>by have:=A08 a;dsimp[lvE];lia
def A6f(m n:Nat)(hm:1<=m)(hn:1<=n):2^(31*m)+2^(31*n)<=2^(31*(m+n)):=by
 have h1:2^(31*m)<=2^(31*(m+n) -1):=Hu (by decide) (by lia);have h2:2^(31*n)<=2^(31*(m+n) -1):=Hu (by decide) (by lia);have h3:2^(31*(m+n))=2^(31*(m+n) -1)*2:=by rw[<-Ji];congr 1;lia
 lia
theorem N3{f:Nat->Int}(hf: ∀k,(f k).natAbs<=1000000): ∀e,O3 e=true->(Z0 f e).natAbs<2^(31*lvE e)
 |.num z,h=>by
  dsimp[O3,Gb]at h;dsimp[Z0,lvE];have:(2:Nat)^(31*1)=2147483648:=by decide
  omega
 |.seen k,h=>by
  dsimp[Z0,lvE];have:=hf k;have:(2:Nat)^(31*1)=2147483648:=by decide
  omega
 |.add a b,h=>by dsimp[O3,Ga]at h;have h1:=N3 hf a h.1;have h2:=N3 hf b h.2;have:=A6f _ _ (A08 a) (A08 b);dsimp[Z0,lvE];omega
 |.sub a b,h=>by dsimp[O3,Ga]at h;have h1:=N3 hf a h.1;have h2:=N3 hf b h.2;have:=A6f _ _ (A08 a) (A08 b);dsimp[Z0,lvE];omega
 |.mul a b,h=>by dsimp[O3,Ga]at h;have h1:=N3 hf a h.1;have h2:=N3 hf b h.2;dsimp[Z0,lvE,Int.natAbs_mul];rw[Nat.mul_add,Nat.pow_add];exact Nat.mul_lt_mul'' h1 h2
theorem P8: ∀e,lvE e<=(D6 e).length
 |.num _=>Gi _
 |.seen _=>Gi _
 |.add a b=>by have:=P8 a;have:=P8 b;simp[lvE,D6];lia
 |.sub a b=>by have:=P8 a;have:=P8 b;simp[lvE,D6];lia
 |.mul a b=>by have:=P8 a;have:=P8 b;simp[lvE,D6];lia
def Nd.isV:Nd->Bool
 |.exp _=>true|.cnd _=>true|_=>false
def C0g{n m:Nd}(h:n.isV=true)(hm:m∈n.kids):m.isV=true:=by
 cases n with
 |con c=>cases h
 |cnd c=>cases c<;>simp[Nd.kids]at hm<;>rcases hm with rfl|rfl<;>rfl
 |exp c=>cases c<;>simp[Nd.kids]at hm<;>rcases hm with rfl|rfl<;>rfl
 |day d=>cases h
 |unit d=>cases h
def A4q{n m:Nd}(h:n.wf=true)(hm:m∈n.kids):m.wf=true:=by
 cases n with
 |con c=>cases c<;>simp[Nd.kids,Nd.wf,E5]at hm h<;>simp_all [Nd.wf]<;>(rcases hm with rfl|rfl|rfl<;>simp_all [Nd.wf])
 |cnd c=>cases c<;>simp[Nd.kids,Nd.wf,V5]at hm h<;>simp_all [Nd.wf]<;>(rcases hm with rfl|rfl<;>simp_all [Nd.wf])
 |exp c=>cases c<;>simp[Nd.kids,Nd.wf,O3]at hm h<;>simp_all [Nd.wf]<;>(rcases hm with rfl|rfl<;>simp_all [Nd.wf])
 |day d=>simp[Nd.kids]at hm
 |unit d=>simp[Nd.kids]at hm
def B1l{p:Nd->Prop}(hk: ∀n m,p n->m∈n.kids->p m)(n:Nd)(h:p n): ∀m∈n.post,p m:=by
 induction e:n.post.length using Nat.strongRecOn generalizing n with
 |_ k ih=>
  intro m hm;rw[Nd.post_eq]at hm;rcases Gp.mp hm with hm|hm
  ·obtain⟨c,hc,hm⟩:=List.mem_flatMap.mp hm;exact ih _ (by rw[<-e];exact Nd.kid_lt hc) c (hk n c h hc) rfl m hm
  ·rw[Gq.mp hm];exact h
def val(f:Nat->Int):Nd->V
 |.exp e=>.int (Z0 f e)|.cnd b=>.bl (evB f b)|_=>.non
inductive B2W(vs:List V)(H:Hp)(Q:VK)(E:XK):Prop
 |mk(f:Nat->Int)(n k1 k2:Nd)(_:vs=[.str (.ofString n.wd),val f k1,val f k2])(_:n.isV=true)(_:n.kids=[k1,k2])(_:(∀a b,n=.exp (.mul a b)->IntMulOk (Z0 f a) (Z0 f b)))(_:Q (val f n) H)
def A0m:T.A6P.C T base 1 B2W:=by
 refine T.A6P.g T (Q7) [] (λ_ _=>trivial) ?_;obtain⟨f,n,k1,k2,rfl,hv,hk,hm,q⟩
 cases n with
 |con c=>cases hv
 |day d=>cases hv
 |unit d=>cases hv
 |exp e=>
  cases e with
  |num z=>simp[Nd.kids]at hk
  |seen k=>simp[Nd.kids]at hk
  |add a b=>simp[Nd.kids]at hk;obtain⟨rfl,rfl⟩:=hk;simpa[Q7,Nd.wd,val,Z0,evB] using q
  |sub a b=>simp[Nd.kids]at hk;obtain⟨rfl,rfl⟩:=hk;simpa[Q7,Nd.wd,val,Z0,evB] using q
  |mul a b=>simp[Nd.kids]at hk;obtain⟨rfl,rfl⟩:=hk;simp[Q7,Nd.wd,val];exact⟨⟨hm a b rfl⟩,q⟩
 |cnd c=>
  cases c with
  |le a b=>simp[Nd.kids]at hk;obtain⟨rfl,rfl⟩:=hk;simpa[Q7,Nd.wd,val,Z0,evB] using q
  |lt a b=>simp[Nd.kids]at hk;obtain⟨rfl,rfl⟩:=hk;simpa[Q7,Nd.wd,val,Z0,evB] using q
  |not_ a=>simp[Nd.kids]at hk
  |all_ a b=>simp[Nd.kids]at hk;obtain⟨rfl,rfl⟩:=hk;simp[Q7,Nd.wd,val,evB]at q ⊢;cases h:evB f a<;>simp[h]at q ⊢ <;>exact q
  |some_ a b=>simp[Nd.kids]at hk;obtain⟨rfl,rfl⟩:=hk;simp[Q7,Nd.wd,val,evB]at q ⊢;cases h:evB f a<;>simp[h]at q ⊢ <;>exact q
def A8C{x y:Int}{m:Nat}(h1:x.natAbs<2^m)(h2:y.natAbs<2^m)(hm:m<=60000000):IntMulOk x y:=by
 have b: ∀z:Int,z.natAbs<2^m->Builtin.Int.intBits z<=m:=λz h=>by
  unfold Builtin.Int.intBits;split
  ·lia
  ·rename_i hz;have:z.natAbs≠0:=by intro e;apply hz;simpa using e
   exact(Nat.log2_lt this).mpr h
 have:=b x h1;have:=b y h2;unfold IntMulOk;intro h;dsimp[Ga]at h;have h3:=h.2;unfold Builtin.Int.intTooBig at h3;dsimp[Gb]at h3;rw[show bitsLine=134217728 from rfl]at h3
 lia
inductive RsI(a l r:Nh)(n:Nd)(f:Nat->Int)(H1:Hp)(i:Nat)(S:L2.St)(H':Hp):Prop
 |mk(v3 v4 v5:Option V)(st:List Nd)(_:S=[some (.ref a),some (.ref l),some (.ref r),v3,v4,v5])(_:Kp [r] H1 H')(_:A0e (n.post.take i) []=some st)(_:H' r=some (.lst (st.reverse.map (val f)))):RsI a l r n f H1 i S H'
inductive B6M(vs:List V)(H:Hp)(Q:VK)(E:XK):Prop
 |mk(a l:Nh)(n:Nd)(f:Nat->Int)(_:vs=[.ref a,.ref l])(_:B0 H a n)(_:n.isV=true)(_:n.wf=true)(_:n.post.length<=1000000)(_:(∀k,(f k).natAbs<=1000000))(_:H l=some (.lst ((List.range 8).map λk=>.int (f k))))(_: ∀H',A5 H H'->Q (val f n) H')
def A12:T.A45.C T base 2 (B6M):=by
 refine T.A45.g T (A5k _ _) [none,none,none,none] (by nomatch A2O T,A0m T) ?_;obtain⟨a,l,n,f,rfl,ha,hv,hw,hn,hf,hl,k⟩;simp[A5k];intro r hr;simp;have s1:A5 H (upd H r (.lst [])):=A5.new hr;refine⟨a,n,rfl,ha.mono s1,hn,?_⟩;intro H1 lp as s2 h1 hp;have hr1:H1 r=some (.lst []):=s2 _ _ A3;have s12:A5 H H1:=s1.trans s2;have hl1:=s12 _ _ hl;have nrl:l≠r:=A2 hl hr;have nrp:lp≠r:=by
  rintro rfl;rw[hr1]at h1;have:as=[]:=by simpa using h1
  subst this;have:=hp.1;rw[Nd.post_eq]at this;simp at this
 have hall:=B1l (p:=λm=>m.isV=true/\m.wf=true/\m.post.length<=1000000) (λx y h hy=>⟨C0g h.1 hy,A4q h.2.1 hy,Hc (Kg (Nd.kid_lt hy)) h.2.2⟩) n ⟨hv,hw,hn⟩;have hrun:=B1g n [];simp[↓Ls h1]
 refine Y9 (G:=λH'=>H' lp=some (.lst (as.map V.ref))) (xs:=as.map V.ref) (F3 λH' g=>g)
  (RsI a l r n f H1)
  ⟨none,none,none,[],rfl,Kp.refl _ _,rfl,hr1⟩ (λi S H' ⟨_,_,_,_,_,h,_,_⟩=>h _ _ h1 (by simpa using nrp)) ?_ ?_
 ·rintro i v S H' hv' ⟨v3,v4,v5,st,rfl,kp,hst,hr'⟩ N hN;obtain⟨c,hc,rfl⟩:=A6c hv';obtain⟨m,hm,pc⟩:=hp.get hc;obtain⟨dx,lc,ks,c1,_⟩:=pc.cell;have ncr:c≠r:=U0 c1 hr1 (by intro z;cases z);have c1':H' c=some (.ins ad.A8 dx (pF m lc)):=kp _ _ c1 (by simpa using ncr);have hl':H' l=some (.lst ((List.range 8).map λk=>.int (f k))):=kp _ _ hl1 (by simpa using nrl);obtain⟨q,rfl,hq⟩:=B1h hrun hm hst;obtain⟨mv,mw,mp⟩:=hall m (Gw hm);have hsz:q.length<sizeLine:=by
   have h2:=A91 _ hq;have h3:=(List.length_take_le (i+1) n.post)
   have h4:(n.post.take (i+1)).length<=n.post.length:=by rw[Iv];lia
   rw[show sizeLine=16777216 from rfl];dsimp[Ge,Gr]at h2
   lia
  have P3: ∀(H'':Hp)(v4 v5:Option V),Kp [r] H1 H''->H'' r=some (.lst (q.reverse.map (val f)++[val f m]))->N [some (.ref a),some (.ref l),some (.ref r),some (.ref c),v4,v5] H'':=λH'' v4 v5 k1 k2=>hN _ _ ⟨_,v4,v5,m::q,rfl,k1,hq,by rw[k2];simp⟩;have kpu: ∀o,Kp [r] H1 (upd H' r o):=λo=>kp.upd (.inl (by simp));have two: ∀k1 k2,m.kids=[k1,k2]->H' r=some (.lst ((q.reverse.map (val f)++[val f k1])++[val f k2])):=λk1 k2 e=>by rw[hr',e];simp
  cases m with
  |con x=>cases mv
  |day x=>cases mv
  |unit x=>cases mv
  |exp e=>
   cases e with
   |num z=>
    have hr2:H' r=some (.lst (q.reverse.map (val f))):=by rw[hr'];simp[Nd.kids]
    simp[↓Ob c1',Nd.wd,↓iL hr2,↓Ls hr2];exact⟨hsz,P3 _ _ _ (kpu _) (by simp[Nd.val,val,Z0])⟩
   |seen k=>
    have hk:k<8:=by simpa[Nd.wf,O3] using mw
    have hr2:H' r=some (.lst (q.reverse.map (val f))):=by rw[hr'];simp[Nd.kids]
    have hat:atI ((List.range 8).map λk=>V.int (f k)) (Nd.val (.exp (.seen k)))=some (.int (f k)):=by rw[show Nd.val (.exp (.seen k))=(k:Int) from rfl,M4,Ha,List.getElem?_range hk];rfl
    simp[↓Ob c1',Nd.wd,↓iL hr2,↓Ls hr2,↓Ls hl',↓gX hat];exact⟨hsz,P3 _ _ _ (kpu _) (by simp[val,Z0])⟩
   |add a' b'=>have h2:=two _ _ rfl;simp[↓Ob c1',Nd.wd,↓iL h2,↓Ls h2,↓N0 ncr];refine⟨f,.exp (.add a' b'),_,_,rfl,rfl,rfl,(λ_ _ e=>nomatch e),?_⟩;simp;exact⟨hsz,P3 _ _ _ (kpu _) (by simp)⟩
   |sub a' b'=>have h2:=two _ _ rfl;simp[↓Ob c1',Nd.wd,↓iL h2,↓Ls h2,↓N0 ncr];refine⟨f,.exp (.sub a' b'),_,_,rfl,rfl,rfl,(λ_ _ e=>nomatch e),?_⟩;simp;exact⟨hsz,P3 _ _ _ (kpu _) (by simp)⟩
   |mul a' b'=>
    have h2:=two _ _ rfl;simp[↓Ob c1',Nd.wd,↓iL h2,↓Ls h2,↓N0 ncr];refine⟨f,.exp (.mul a' b'),_,_,rfl,rfl,rfl,(λx y e=>by
     cases e;dsimp[Nd.wf,O3,Ga]at mw;have b1:=N3 hf a' mw.1;have b2:=N3 hf b' mw.2;have l1:=P8 a';have l2:=P8 b';have mp':(D6 a').length+(D6 b').length<1000000:=by dsimp[Nd.post,D6,Gg,Ge,Gr]at mp;lia
     refine A8C (m:=31*(lvE a'+lvE b')) (Gv b1 (Hu (by decide) (by lia))) (Gv b2 (Hu (by decide) (by lia))) (by lia)),?_⟩
    simp;exact⟨hsz,P3 _ _ _ (kpu _) (by simp)⟩
  |cnd e=>
   cases e with
   |le a' b'=>have h2:=two _ _ rfl;simp[↓Ob c1',Nd.wd,↓iL h2,↓Ls h2,↓N0 ncr];refine⟨f,.cnd (.le a' b'),_,_,rfl,rfl,rfl,(λ_ _ e=>nomatch e),?_⟩;simp;exact⟨hsz,P3 _ _ _ (kpu _) (by simp)⟩
   |lt a' b'=>have h2:=two _ _ rfl;simp[↓Ob c1',Nd.wd,↓iL h2,↓Ls h2,↓N0 ncr];refine⟨f,.cnd (.lt a' b'),_,_,rfl,rfl,rfl,(λ_ _ e=>nomatch e),?_⟩;simp;exact⟨hsz,P3 _ _ _ (kpu _) (by simp)⟩
   |not_ a'=>
    have h2:H' r=some (.lst (q.reverse.map (val f)++[val f (.cnd a')])):=by rw[hr'];simp[Nd.kids]
    simp[↓Ob c1',Nd.wd,↓iL h2,↓Ls h2,val];exact⟨hsz,P3 _ _ _ (kpu _) (by simp[val,evB])⟩
   |all_ a' b'=>have h2:=two _ _ rfl;simp[↓Ob c1',Nd.wd,↓iL h2,↓Ls h2,↓N0 ncr];refine⟨f,.cnd (.all_ a' b'),_,_,rfl,rfl,rfl,(λ_ _ e=>nomatch e),?_⟩;simp;exact⟨hsz,P3 _ _ _ (kpu _) (by simp)⟩
   |some_ a' b'=>have h2:=two _ _ rfl;simp[↓Ob c1',Nd.wd,↓iL h2,↓Ls h2,↓N0 ncr];refine⟨f,.cnd (.some_ a' b'),_,_,rfl,rfl,rfl,(λ_ _ e=>nomatch e),?_⟩;simp;exact⟨hsz,P3 _ _ _ (kpu _) (by simp)⟩
 ·rintro S H' ⟨v3,v4,v5,st,rfl,kp,hst,hr'⟩;rw[Gz,hp.1,Ho,hrun]at hst;cases hst;have hr2:H' r=some (.lst [val f n]):=hr';simp[↓Ls hr2];exact k _ (λb o e=>by rw[A4 (A2 e hr)];exact kp _ _ (s12 _ _ e) (by simpa using A2 e hr))
def K8:Nd->Nd
 |.con c=>.con (Kw c)|.cnd b=>.cnd (Lh b)|.exp e=>.exp (Lb e)|.day d=>.day d|.unit u=>.unit u
def B2O{n:Nd}(h:n.kids=[]):K8 n=n:=by
 cases n with
 |con c=>cases c<;>simp[Nd.kids]at h<;>rfl
 |cnd c=>cases c<;>simp[Nd.kids]at h
 |exp c=>cases c<;>simp[Nd.kids]at h<;>rfl
 |day d=>rfl
 |unit d=>rfl
def R0(z:Int):My z=decide (z.natAbs<=999999999):=by
 unfold My Kcp0.NUM;rw[Im];simp
 lia
def B79{e:Exp}{z:Int}(h:O3 e=true):O3 (Lm e z)=true:=by
 unfold Lm;split
 ·rename_i q;rw[R0]at q;simpa[O3] using q
 ·exact h
def B8a{e:Exp}{z:Int}:(D6 (Lm e z)).length<=(D6 e).length:=by
 unfold Lm;split
 ·simp[D6];cases e<;>simp[D6]<;>lia
 ·exact Gi _
theorem E8: ∀e,O3 e=true->O3 (Lb e)=true/\(D6 (Lb e)).length<=(D6 e).length
 |.num _,h=>⟨h,Gi _⟩
 |.seen _,h=>⟨h,Gi _⟩
 |.add a b,h=>by
  dsimp[O3,Ga]at h;obtain⟨a1,a2⟩:=E8 a h.1;obtain⟨b1,b2⟩:=E8 b h.2;unfold Lb;split
  ·rename_i hx hy;rw[hx]at a1 a2;rw[hy]at b1 b2;refine⟨B79 (by simp[O3]at a1 b1 ⊢;exact⟨a1,b1⟩),Hc B8a ?_⟩;simp[D6]at a2 b2 ⊢;lia
  ·simp[O3,D6,a1,b1];lia
 |.sub a b,h=>by
  dsimp[O3,Ga]at h;obtain⟨a1,a2⟩:=E8 a h.1;obtain⟨b1,b2⟩:=E8 b h.2;unfold Lb;split
  ·rename_i hx hy;rw[hx]at a1 a2;rw[hy]at b1 b2;refine⟨B79 (by simp[O3]at a1 b1 ⊢;exact⟨a1,b1⟩),Hc B8a ?_⟩;simp[D6]at a2 b2 ⊢;lia
  ·simp[O3,D6,a1,b1];lia
 |.mul a b,h=>by
  dsimp[O3,Ga]at h;obtain⟨a1,a2⟩:=E8 a h.1;obtain⟨b1,b2⟩:=E8 b h.2;unfold Lb;split
  ·rename_i hx hy;rw[hx]at a1 a2;rw[hy]at b1 b2;refine⟨B79 (by simp[O3]at a1 b1 ⊢;exact⟨a1,b1⟩),Hc B8a ?_⟩;simp[D6]at a2 b2 ⊢;lia
  ·simp[O3,D6,a1,b1];lia
theorem X3: ∀e,V5 e=true->V5 (Lh e)=true/\(K2 (Lh e)).length<=(K2 e).length
 |.le a b,h=>by dsimp[V5,Ga]at h;obtain⟨a1,a2⟩:=E8 a h.1;obtain⟨b1,b2⟩:=E8 b h.2;simp[Lh,V5,K2,a1,b1];lia
 |.lt a b,h=>by dsimp[V5,Ga]at h;obtain⟨a1,a2⟩:=E8 a h.1;obtain⟨b1,b2⟩:=E8 b h.2;simp[Lh,V5,K2,a1,b1];lia
 |.not_ a,h=>by
  dsimp[V5]at h;obtain⟨a1,a2⟩:=X3 a h;unfold Lh;split
  ·rename_i hx;rw[hx]at a1 a2;simp[V5,K2]at a1 a2 ⊢;exact⟨a1,by lia⟩
  ·simp[V5,K2,a1];lia
 |.all_ a b,h=>by dsimp[V5,Ga]at h;obtain⟨a1,a2⟩:=X3 a h.1;obtain⟨b1,b2⟩:=X3 b h.2;simp[Lh,V5,K2,a1,b1];lia
 |.some_ a b,h=>by dsimp[V5,Ga]at h;obtain⟨a1,a2⟩:=X3 a h.1;obtain⟨b1,b2⟩:=X3 b h.2;simp[Lh,V5,K2,a1,b1];lia
theorem J3: ∀c,E5 c=true->E5 (Kw c)=true/\(A9 (Kw c)).length<=(A9 c).length
 |.nothing,h=>⟨h,Gi _⟩
 |.one u,h=>⟨h,Gi _⟩
 |.both a b,h=>by
  dsimp[E5,Ga]at h;obtain⟨a1,a2⟩:=J3 a h.1;obtain⟨b1,b2⟩:=J3 b h.2;unfold Kw;split
  ·exact⟨b1,by simp[A9];lia⟩
  ·exact⟨a1,by simp[A9];lia⟩
  ·simp[E5,A9,a1,b1];lia
 |.or_ a b,h=>by
  dsimp[E5,Ga]at h;obtain⟨a1,a2⟩:=J3 a h.1;obtain⟨b1,b2⟩:=J3 b h.2;unfold Kw;split
  ·exact⟨rfl,by simp[A9]<;>lia⟩
  ·simp[E5,A9,a1,b1];lia
 |.turn a,h=>by
  dsimp[E5]at h;obtain⟨a1,a2⟩:=J3 a h;unfold Kw;split
  ·exact⟨rfl,by simp[A9]<;>lia⟩
  ·rename_i hx;rw[hx]at a1 a2;simp[E5,A9]at a1 a2 ⊢;exact⟨a1,by lia⟩
  ·simp[E5,A9,a1];lia
 |.times e a,h=>by
  dsimp[E5,Ga]at h;obtain⟨e1,e2⟩:=E8 e h.1;obtain⟨a1,a2⟩:=J3 a h.2;unfold Kw;split
  ·exact⟨rfl,by simp[A9]<;>lia⟩
  ·rename_i hx;rw[hx]at e1 e2;split
   ·exact⟨rfl,by simp[A9]<;>lia⟩
   ·split
    ·exact⟨a1,by simp[A9];lia⟩
    ·simp[E5,A9,D6]at a1 a2 e1 e2 ⊢;exact⟨⟨e1,a1⟩,by lia⟩
  ·simp[E5,A9,a1,e1];lia
 |.if_ b x y,h=>by
  dsimp[E5,Ga]at h;obtain⟨b1,b2⟩:=X3 b h.1.1;obtain⟨x1,x2⟩:=J3 x h.1.2;obtain⟨y1,y2⟩:=J3 y h.2;unfold Kw;dsimp only;split
  ·exact⟨x1,by simp[A9];lia⟩
  ·simp[E5,A9,b1,x1,y1];lia
 |.at_ d a,h=>by
  dsimp[E5,Ga]at h;obtain⟨a1,a2⟩:=J3 a h.2;unfold Kw;split
  ·exact⟨rfl,by simp[A9]<;>lia⟩
  ·rename_i hx;rw[hx]at a1 a2;split
   ·exact⟨rfl,by simp[A9]<;>lia⟩
   ·simp[E5,A9]at h a1 a2 ⊢;exact⟨⟨h.1,a1⟩,by lia⟩
  ·simp[E5,A9,a1]at h ⊢;exact⟨h.1,by lia⟩
 |.when_ d b a,h=>by
  dsimp[E5,Ga]at h;obtain⟨b1,b2⟩:=X3 b h.1.2;obtain⟨a1,a2⟩:=J3 a h.2;unfold Kw;split
  ·exact⟨rfl,by simp[A9]<;>lia⟩
  ·simp[E5,A9,a1,b1]at h ⊢;exact⟨h.1.1,by lia⟩
 |.any_ d a,h=>by
  dsimp[E5,Ga]at h;obtain⟨a1,a2⟩:=J3 a h.2;unfold Kw;split
  ·exact⟨rfl,by simp[A9]<;>lia⟩
  ·simp[E5,A9,a1]at h ⊢;exact⟨h.1,by lia⟩
def B6x{n:Nd}(h:n.wf=true):(K8 n).wf=true/\(K8 n).post.length<=n.post.length:=by
 cases n with
 |con c=>exact J3 c h
 |cnd c=>exact X3 c h
 |exp c=>exact E8 c h
 |day d=>exact⟨h,Gi _⟩
 |unit d=>exact⟨h,Gi _⟩
theorem A0j: ∀(f n k:Nat),n<10^(k+1)->(Le f n).length<=k+1
 |0,_,_,_=>by simp[Le]
 |f+1,n,0,h=>by
  have h:n<10:=by simpa using h
  simp[Le,h]
 |f+1,n,k+1,h=>by
  unfold Le;split
  ·simp
  ·have:=A0j f (n/10) k (by rw[Ji]at h;lia);simp;lia
def P7(n:Nat):1<=(Kv n).length:=by unfold Kv Le;split<;>simp
def A4U{z:Int}(h:z.natAbs<=999999999):(Kz z).length<=10:=by
 unfold Kz Kv;split
 ·have:=A0j 20 (-z).toNat 8 (by lia);simp;lia
 ·have:=A0j 20 z.toNat 8 (by lia);lia
def A4T(z:Int):1<=(Kz z).length:=by
 unfold Kz;split
 ·simp
 ·exact P7 _
theorem A5B: ∀e,O3 e=true->(Kx e).length<=12*(D6 e).length/\(D6 e).length<=(Kx e).length
 |.num z,h=>by simp[O3]at h;have:=A4U h;have:=A4T z;simp[Kx,D6];lia
 |.seen k,_=>by simp[Kx,D6]
 |.add a b,h=>by dsimp[O3,Ga]at h;have:=A5B a h.1;have:=A5B b h.2;simp[Kx,D6,Kr];lia
 |.sub a b,h=>by dsimp[O3,Ga]at h;have:=A5B a h.1;have:=A5B b h.2;simp[Kx,D6,Kr];lia
 |.mul a b,h=>by dsimp[O3,Ga]at h;have:=A5B a h.1;have:=A5B b h.2;simp[Kx,D6,Kr];lia
theorem B1A: ∀e,V5 e=true->(La e).length<=12*(K2 e).length/\(K2 e).length<=(La e).length
 |.le a b,h=>by dsimp[V5,Ga]at h;have:=A5B a h.1;have:=A5B b h.2;simp[La,K2,Kr];lia
 |.lt a b,h=>by dsimp[V5,Ga]at h;have:=A5B a h.1;have:=A5B b h.2;simp[La,K2,Kr];lia
 |.not_ a,h=>by dsimp[V5]at h;have:=B1A a h;simp[La,K2,Kr];lia
 |.all_ a b,h=>by dsimp[V5,Ga]at h;have:=B1A a h.1;have:=B1A b h.2;simp[La,K2,Kr];lia
 |.some_ a b,h=>by dsimp[V5,Ga]at h;have:=B1A a h.1;have:=B1A b h.2;simp[La,K2,Kr];lia
def A4z{d:Nat}(h:d<=1000):(Kv d).length<=10:=by have:=A0j 20 d 8 (by lia);unfold Kv;lia
theorem A1N: ∀c,E5 c=true->(Ks c).length<=12*(A9 c).length/\(A9 c).length<=(Ks c).length
 |.nothing,_=>by simp[Ks,A9,Kr]
 |.one u,_=>by simp[Ks,A9,Kr]
 |.both a b,h=>by dsimp[E5,Ga]at h;have:=A1N a h.1;have:=A1N b h.2;simp[Ks,A9,Kr];lia
 |.or_ a b,h=>by dsimp[E5,Ga]at h;have:=A1N a h.1;have:=A1N b h.2;simp[Ks,A9,Kr];lia
 |.turn a,h=>by dsimp[E5]at h;have:=A1N a h;simp[Ks,A9,Kr];lia
 |.times e a,h=>by dsimp[E5,Ga]at h;have:=A5B e h.1;have:=A1N a h.2;simp[Ks,A9,Kr];lia
 |.if_ b x y,h=>by dsimp[E5,Ga]at h;have:=B1A b h.1.1;have:=A1N x h.1.2;have:=A1N y h.2;simp[Ks,A9,Kr];lia
 |.at_ d a,h=>by dsimp[E5,Ga,Gb]at h;have:=A4z h.1;have:=P7 d;have:=A1N a h.2;simp[Ks,A9,Kr];lia
 |.when_ d b a,h=>by dsimp[E5,Ga,Gb]at h;have:=A4z h.1.1;have:=P7 d;have:=B1A b h.1.2;have:=A1N a h.2;simp[Ks,A9,Kr];lia
 |.any_ d a,h=>by dsimp[E5,Ga,Gb]at h;have:=A4z h.1;have:=P7 d;have:=A1N a h.2;simp[Ks,A9,Kr];lia
def C7E{n:Nd}(h:n.wf=true):n.txt.length<=12*n.post.length/\n.post.length<=n.txt.length:=by
 cases n with
 |con c=>exact A1N c h
 |cnd c=>exact B1A c h
 |exp c=>exact A5B c h
 |day d=>
  have h:d<=1000:=by simpa[Nd.wf] using h
  have:=A4z h;have:=P7 d;simp[Nd.txt,Nd.post];lia
 |unit d=>simp[Nd.txt,Nd.post]
def X2(d:List Nat):Nat:=d.foldl (λ(n:Nat) c=>10*n+(c -48)) 0
def A2g(d:List Nat)(c:Nat):X2 (d++[c])=10*X2 d+(c -48):=by unfold X2;rw[Kb];rfl
theorem T6: ∀(f n:Nat),∀c∈Le f n,Lc c=true
 |0,n=>by simp[Le]
 |f+1,n=>by
  unfold Le;split
  ·intro c hc;rw[Gq.mp hc];simp[Lc];lia
  ·intro c hc;rcases Gp.mp hc with h|h
   ·exact T6 f _ c h
   ·rw[Gq.mp h];simp[Lc];lia
theorem A29: ∀(f n:Nat),n<10^f->0<f->X2 (Le f n)=n
 |0,n,_,h=>by lia
 |f+1,n,h,_=>by
  unfold Le;split
  ·simp[X2]
  ·rename_i hn;have hf:0<f:=by
    rcases f with _|f
    ·simp at h;lia
    ·lia
   rw[A2g,A29 f (n/10) (by rw[Ji]at h;lia) hf]
   lia
theorem A4w: ∀(f n:Nat),n<10^f->1<=n->(Le f n).head?≠some 48
 |0,n,h,h1=>by simp at h;lia
 |f+1,n,h,h1=>by
  unfold Le;split
  ·simp;lia
  ·rename_i hn;have hne:Le f (n/10)≠[]:=by
    rcases f with _|f
    ·simp at h;lia
    ·unfold Le;split<;>simp
   have:=A4w f (n/10) (by rw[Ji]at h;lia) (by lia);intro e
   cases hd:Le f (n/10) with
   |nil=>exact hne hd
   |cons x r=>rw[hd]at e this;simp at e this;exact this e
def B3o{f n:Nat}(h:n<10):Le (f+1) n=[48+n]:=by unfold Le;rw[Gf h]
def A59{S:Type}{p:List S->Prop}(h0:p [])(h1: ∀l x,p l->p (l++[x]))(l:List S):p l:=by
 have: ∀n (l:List S),l.length=n->p l:=by
  intro n
  induction n with
  |zero=>intro l hl;rw[Js hl];exact h0
  |succ n ih=>
   intro l hl;have hne:l≠[]:=by intro e;rw[e]at hl;simp at hl
   rw[<-Jd hne];exact h1 _ _ (ih _ (by simp[hl]))
 exact this _ l rfl
def B3O: ∀d:List Nat,(∀c∈d,Lc c=true)->d≠[]->d.head?≠some 48->1<=X2 d:=by
 intro d
 induction d using A59 with
 |h0=>intro _ h;exact Gn rfl h
 |h1 d x ih=>
  intro hd _ hh;rw[A2g];have hx:=hd x (by simp);simp[Lc]at hx;by_cases h0:d=[]
  ·subst h0;simp at hh;simp[X2];lia
  ·have:=ih (λc hc=>hd c (by simp[hc])) h0 (by
    cases d with
    |nil=>exact Gn rfl h0
    |cons a r=>simpa using hh)
   lia
def A80: ∀d:List Nat,(∀c∈d,Lc c=true)->d≠[]->(1<d.length->d.head?≠some 48)->∀f,d.length<=f->Le f (X2 d)=d:=by
 intro d
 induction d using A59 with
 |h0=>intro _ h;exact Gn rfl h
 |h1 d x ih=>
  intro hd _ hh f hf;have hx:=hd x (by simp);simp[Lc]at hx;obtain⟨f,rfl⟩: ∃g,f=g+1:=⟨f -1,by simp at hf;lia⟩
  rw[A2g];by_cases h0:d=[]
  ·subst h0;simp[X2];rw[B3o (by lia)];congr 1;lia
  ·have hd': ∀c∈d,Lc c=true:=λc hc=>hd c (by simp[hc]);have hlen:1<(d++[x]).length:=by have:0<d.length:=List.length_pos_iff.mpr h0;simp;lia
   have hh':d.head?≠some 48:=by
    have:=hh hlen
    cases d with
    |nil=>exact Gn rfl h0
    |cons a r=>simpa using this
   have hp:=B3O d hd' h0 hh';unfold Le;rw[Gd (by lia)];have e1:(10*X2 d+(x -48))/10=X2 d:=by lia
   have e2:48+(10*X2 d+(x -48)) % 10=x:=by lia
   rw[e1,e2,ih hd' h0 (λ_=>hh') f (by simp at hf;lia)]
def B6q: ∀d:List Nat,(∀c∈d,Lc c=true)->X2 d<10^d.length:=by
 intro d
 induction d using A59 with
 |h0=>intro _;simp[X2]
 |h1 d x ih=>
  intro hd;have hx:=hd x (by simp);simp[Lc]at hx;have:=ih λc hc=>hd c (by simp[hc]);rw[A2g,Gg,Km,Ji]
  lia
theorem A2x{p:Nat->Bool}: ∀(a r:List Nat),(∀c∈a,p c=true)->(∀c,r.head?=some c->p c=false)->(a++r).takeWhile p=a
 |[],[],_,_=>rfl
 |[],c::r,_,h=>by simp[h c rfl]
 |x::a,r,h,h2=>by simp[h x (by simp)];exact A2x a r (λc hc=>h c (by simp[hc])) h2
def Mk(r:List Nat):Prop:=∀c,r.head?=some c->c=44\/c=41
def Mk.dig{r:List Nat}(h:Mk r): ∀c,r.head?=some c->Lc c=false:=λc hc=>by rcases h c hc with rfl|rfl<;>rfl
def Mk.cons44(r:List Nat):Mk (44::r):=λc hc=>by simp at hc;exact .inl hc.symm
def Mk.cons41(r:List Nat):Mk (41::r):=λc hc=>by simp at hc;exact .inr hc.symm
def A1K{n:Nat}(h:n<10^9):(Kv n).length<=9:=A0j 20 n 8 h
def W2(n:Nat):Kv n≠[]:=λe=>by have:=P7 n;rw[e]at this;simp at this
def A6l{n:Nat}(h:n<10^9){r:List Nat}(hr: ∀c,r.head?=some c->Lc c=false):Mc (Kv n++r)=some (n,r):=by
 have ha: ∀c∈Kv n,Lc c=true:=T6 20 n;unfold Mc;dsimp[A2x _ _ ha hr];have hl:=A1K h;rw[Gd ?_]
 ·have e:(Kv n).foldl (λ(n:Nat) c=>10*n+(c -48)) 0=n:=A29 20 n (Jk h (by decide)) (by decide);rw[e];simp
 ·rintro(h1|h1|⟨h1,h2⟩)
  ·exact W2 n h1
  ·lia
  ·by_cases h0:1<=n
   ·exact A4w 20 n (Jk h (by decide)) h0 h2
   ·have:n=0:=by lia
    subst this;simp[Kv,Le]at h1
theorem A2y{p:Nat->Bool}: ∀l:List Nat,∀c∈l.takeWhile p,p c=true
 |[]=>by simp
 |x::l=>by
  intro c hc;by_cases hx:p x=true
  ·simp[hx]at hc;rcases hc with rfl|hc
   ·exact hx
   ·exact A2y l c hc
  ·simp[hx]at hc
theorem A1A{p:Nat->Bool}: ∀l:List Nat,l.takeWhile p++l.drop (l.takeWhile p).length=l
 |[]=>rfl
 |x::l=>by
  by_cases hx:p x=true
  ·simp[hx,A1A l]
  ·simp[hx]
def A4m{l r:List Nat}{n:Nat}(h:Mc l=some (n,r)):l=Kv n++r/\n<10^9:=by
 unfold Mc at h;simp only at h;split at h
 ·cases h
 ·rename_i hc;dsimp[not_or,not_and]at hc;obtain⟨h1,h2,h3⟩:=hc;dsimp[Gy,Hx]at h;have ha:=A2y (p:=Lc) l;have e:Kv n=l.takeWhile Lc:=by rw[<-h.1];exact A80 _ ha h1 h3 20 (by lia)
  refine⟨?_,?_⟩
  ·rw[e,<-h.2];exact(A1A l).symm
  ·rw[<-h.1];exact Gv (B6q _ ha) (Hu (by decide) (by lia))
def B0i(c:Nat)(l r:List Nat):Lg [c] l=some r↔l=c::r:=by
 cases l with
 |nil=>simp[Lg]
 |cons x l=>dsimp[Lg];split<;>simp_all [eq_comm]
theorem B4z: ∀(w l:List Nat),Lg w (w++l)=some l
 |[],l=>rfl
 |c::w,l=>by simp[Lg,B4z w l]
theorem E1: ∀(w l r:List Nat),Lg w l=some r->l=w++r
 |[],l,r,h=>by simpa[Lg] using h
 |c::w,[],r,h=>by cases h
 |c::w,d::l,r,h=>by
  dsimp[Lg]at h;split at h
  ·rename_i e;rw[e,E1 w l r h];rfl
  ·cases h
def A2n{n:Nat}{r:List Nat}: ∃c s,Kv n++r=c::s/\Lc c=true:=by
 have ha: ∀c∈Kv n,Lc c=true:=T6 20 n
 cases h:Kv n with
 |nil=>exact Gn h (W2 n)
 |cons c s=>exact⟨c,s++r,rfl,ha c (by rw[h];simp)⟩
def B1G{z:Int}(h:z.natAbs<10^9){r:List Nat}(hr: ∀c,r.head?=some c->Lc c=false):Md (Kz z++r)=some (z,r):=by
 unfold Kz Md;by_cases hz:z<0
 ·rw[Gf hz];have:Lg [45] (45::Kv (-z).toNat++r)=some (Kv (-z).toNat++r):=rfl;rw[this];simp only;rw[A6l (by lia) hr];have hp:(-z).toNat≠0:=by lia
  generalize hq:(-z).toNat=m at hp ⊢
  cases m with
  |zero=>exact Gn rfl hp
  |succ m=>
   dsimp[Gy,Hx,and_true]
   lia
 ·rw[Gd hz];obtain⟨c,s,e,hd⟩:=A2n (n:=z.toNat) (r:=r);have:Lg [45] (Kv z.toNat++r)=none:=by rw[e];dsimp[Lg];rw[Gd (λh=>by subst h;simp[Lc]at hd)]
  rw[this];simp only;rw[A6l (by lia) hr];simp;lia
def A8H{l r:List Nat}{z:Int}(h:Md l=some (z,r)):l=Kz z++r/\z.natAbs<10^9:=by
 unfold Md at h
 cases he:Lg [45] l with
 |some q=>
  rw[he]at h;simp only at h;have:=(B0i 45 l q).mp he;subst this
  cases hn:Mc q with
  |none=>rw[hn]at h;cases h
  |some x=>
   obtain⟨n,t⟩:=x;rw[hn]at h;obtain⟨h1,h2⟩:=A4m hn
   cases n with
   |zero=>cases h
   |succ n=>
    dsimp[Gy,Hx]at h;obtain⟨rfl,rfl⟩:=h;refine⟨?_,by lia⟩;unfold Kz;rw[Gf (by lia),h1];have:(-(-((n+1:Nat):Int))).toNat=n+1:=by lia
    rw[this];rfl
 |none=>
  rw[he]at h;simp only at h
  cases hn:Mc l with
  |none=>rw[hn]at h;cases h
  |some x=>obtain⟨n,t⟩:=x;rw[hn]at h;obtain⟨h1,h2⟩:=A4m hn;dsimp[Hg,Gy,Hx]at h;obtain⟨rfl,rfl⟩:=h;refine⟨?_,by lia⟩;unfold Kz;rw[Gd (by lia),h1];rfl
def A6V{n:Nat}(h:n<=1000){r:List Nat}(hr: ∀c,r.head?=some c->Lc c=false):Mq (Kv n++r)=some (n,r):=by unfold Mq;rw[A6l (by lia) hr];have hD:Kcp0.DAYS=1000:=rfl;simp only;rw[Gd (by lia)]
def A4y{l r:List Nat}{n:Nat}(h:Mq l=some (n,r)):l=Kv n++r/\n<=1000:=by
 unfold Mq at h
 cases hn:Mc l with
 |none=>rw[hn]at h;cases h
 |some x=>
  obtain⟨m,t⟩:=x;rw[hn]at h;have hD:Kcp0.DAYS=1000:=rfl;simp only at h;split at h
  ·cases h
  ·dsimp[Gy,Hx]at h;obtain⟨rfl,rfl⟩:=h;exact⟨(A4m hn).1,by lia⟩
section
variable{S J L M:Type}{o:Option (S×Kcp0.Bytes)}{f:Kcp0.Bytes->Option (J×Kcp0.Bytes)}{f2:Kcp0.Bytes->Option (L×Kcp0.Bytes)}{g:S->J->L}{g1:S->L}{g3:S->J->L->M}
def A2i{c:Nat}{x:S}{r:List Nat}(h:Lz c o=some (x,r)):o=some (x,c::r):=by
 unfold Lz at h
 cases o with
 |none=>cases h
 |some y=>
  obtain⟨y,q⟩:=y;simp only at h
  cases he:Lg [c] q with
  |none=>rw[he]at h;cases h
  |some t=>rw[he]at h;dsimp[Hg,Gy,Hx]at h;obtain⟨rfl,rfl⟩:=h;rw[(B0i c q t).mp he]
def A5N{c:Nat}{x:S}{r:List Nat}(h:o=some (x,c::r)):Lz c o=some (x,r):=by rw[h];unfold Lz;simp[Lg]
def J2{c:L}{r:List Nat}(h:Mr o f g=some (c,r)): ∃x y r1,o=some (x,44::r1)/\f r1=some (y,41::r)/\c=g x y:=by
 unfold Mr at h
 cases ho:Lz 44 o with
 |none=>rw[ho]at h;cases h
 |some x=>
  obtain⟨x,r1⟩:=x;rw[ho]at h;simp only at h
  cases hf:Lz 41 (f r1) with
  |none=>rw[hf]at h;cases h
  |some y=>obtain⟨y,r2⟩:=y;rw[hf]at h;dsimp[Hg,Gy,Hx]at h;obtain⟨rfl,rfl⟩:=h;exact⟨x,y,r1,A2i ho,A2i hf,rfl⟩
def R4{x:S}{y:J}{r r1:List Nat}(h1:o=some (x,44::r1))(h2:f r1=some (y,41::r)):Mr o f g=some (g x y,r):=by unfold Mr;rw[A5N h1];simp only;rw[A5N h2];rfl
def A4L{c:L}{r:List Nat}(h:Ms o g1=some (c,r)): ∃x,o=some (x,41::r)/\c=g1 x:=by
 unfold Ms at h
 cases ho:Lz 41 o with
 |none=>rw[ho]at h;cases h
 |some x=>obtain⟨x,r1⟩:=x;rw[ho]at h;dsimp[Hg,Gy,Hx]at h;obtain⟨rfl,rfl⟩:=h;exact⟨x,A2i ho,rfl⟩
def A8s{x:S}{r:List Nat}(h1:o=some (x,41::r)):Ms o g1=some (g1 x,r):=by unfold Ms;rw[A5N h1];rfl
def A4K{c:M}{r:List Nat}(h:Mu o f f2 g3=some (c,r)): ∃x y z r1 r2,o=some (x,44::r1)/\f r1=some (y,44::r2)/\f2 r2=some (z,41::r)/\c=g3 x y z:=by
 unfold Mu at h
 cases ho:Lz 44 o with
 |none=>rw[ho]at h;cases h
 |some x=>obtain⟨x,r1⟩:=x;rw[ho]at h;simp only at h;obtain⟨y,z,r2,h1,h2,h3⟩:=J2 h;exact⟨x,y,z,r1,r2,A2i ho,h1,h2,h3⟩
def A8l{x:S}{y:J}{z:L}{r r1 r2:List Nat}(h1:o=some (x,44::r1))(h2:f r1=some (y,44::r2))(h3:f2 r2=some (z,41::r)):Mu o f f2 g3=some (g3 x y z,r):=by unfold Mu;rw[A5N h1];exact R4 h2 h3
end
def B6p:Kr "add("=[97,100,100,40]:=by decide
def B6k:Kr "sub("=[115,117,98,40]:=by decide
def B6m:Kr "mul("=[109,117,108,40]:=by decide
def C1u:Kr "le("=[108,101,40]:=by decide
def C1t:Kr "lt("=[108,116,40]:=by decide
def B6l:Kr "not("=[110,111,116,40]:=by decide
def B6o:Kr "all("=[97,108,108,40]:=by decide
def B2J:Kr "some("=[115,111,109,101,40]:=by decide
def A35:Kr "nothing"=[110,111,116,104,105,110,103]:=by decide
def B3N:Kr "one("=[111,110,101,40]:=by decide
def B2K:Kr "both("=[98,111,116,104,40]:=by decide
def C1s:Kr "or("=[111,114,40]:=by decide
def B2I:Kr "turn("=[116,117,114,110,40]:=by decide
def A9D:Kr "times("=[116,105,109,101,115,40]:=by decide
def C1v:Kr "if("=[105,102,40]:=by decide
def C1w:Kr "at("=[97,116,40]:=by decide
def B2H:Kr "when("=[119,104,101,110,40]:=by decide
def B6n:Kr "any("=[97,110,121,40]:=by decide
theorem Q5: ∀(e:Exp),O3 e=true->∀f,(D6 e).length<=f->∀r,Mk r->Lo f (Kx e++r)=some (e,r)
 |.num z,h,f,hf,r,hr=>by
  dsimp[O3,Gb]at h;dsimp[D6,Ge,Gr]at hf;obtain⟨f,rfl⟩: ∃g,f=g+1:=⟨f -1,by lia⟩
  have hi:=B1G (z:=z) (by lia) hr.dig;show Lo (f+1) (Kz z++r)=_;have hc: ∃c s,Kz z++r=c::s/\c<58:=by
   unfold Kz;split
   ·exact⟨45,_,rfl,by lia⟩
   ·obtain⟨c,s,e,hd⟩:=A2n (n:=z.toNat) (r:=r);simp[Lc]at hd;exact⟨c,s,e,by lia⟩
  obtain⟨c,s,e,hd⟩:=hc;rw[e]at hi ⊢;have n1: ¬97=c:=by lia
  have n2: ¬115=c:=by lia
  have n3: ¬109=c:=by lia
  unfold Lo Lf;dsimp[B6p,B6k,B6m,C1u,C1t,B6l,B6o,B2J,A35,B3N,B2K,C1s,B2I,A9D,C1v,C1w,B2H,B6n,Lg,n1,n2,n3,if_false,reduceIte];rw[Gd (by lia),hi];rfl
 |.seen k,h,f,hf,r,hr=>by
  dsimp[O3,Gb]at h;dsimp[D6,Ge,Gr]at hf;obtain⟨f,rfl⟩: ∃g,f=g+1:=⟨f -1,by lia⟩
  show Lo (f+1) ((97+k)::r)=_;have n2: ¬115=97+k:=by lia
  have n3: ¬109=97+k:=by lia
  have n1:Lg [97,100,100,40] ((97+k)::r)=none:=by
   dsimp[Lg];split
   ·cases r with
    |nil=>rfl
    |cons c r=>have:c=44\/c=41:=hr c rfl;dsimp[Lg];rw[Gd (by lia)]
   ·rfl
  unfold Lo Lf;dsimp[B6p,B6k,B6m,C1u,C1t,B6l,B6o,B2J,A35,B3N,B2K,C1s,B2I,A9D,C1v,C1w,B2H,B6n];rw[n1];dsimp[Lg,n2,n3,if_false,reduceIte];have hS:Kcp0.SEEN=8:=rfl;rw[Gf (by lia)];simp
 |.add a b,h,f,hf,r,hr=>by
  dsimp[O3,Ga]at h;dsimp[D6,Gg,Ge,Gr]at hf;obtain⟨f,rfl⟩: ∃g,f=g+1:=⟨f -1,by lia⟩
  have e:Kx (.add a b)++r=Kr "add("++(Kx a++44::(Kx b++41::r)):=by simp[Kx]
  have h1:=Q5 a h.1 f (by lia) (44::(Kx b++41::r)) (Mk.cons44 _);have h2:=Q5 b h.2 f (by lia) (41::r) (Mk.cons41 _);rw[e];exact .trans (by kernel_rfl) (R4 (f:=Lo f) (g:=Kcp0.Exp.add) h1 h2)
 |.sub a b,h,f,hf,r,hr=>by
  dsimp[O3,Ga]at h;dsimp[D6,Gg,Ge,Gr]at hf;obtain⟨f,rfl⟩: ∃g,f=g+1:=⟨f -1,by lia⟩
  have e:Kx (.sub a b)++r=Kr "sub("++(Kx a++44::(Kx b++41::r)):=by simp[Kx]
  have h1:=Q5 a h.1 f (by lia) (44::(Kx b++41::r)) (Mk.cons44 _);have h2:=Q5 b h.2 f (by lia) (41::r) (Mk.cons41 _);rw[e];exact .trans (by kernel_rfl) (R4 (f:=Lo f) (g:=Kcp0.Exp.sub) h1 h2)
 |.mul a b,h,f,hf,r,hr=>by
  dsimp[O3,Ga]at h;dsimp[D6,Gg,Ge,Gr]at hf;obtain⟨f,rfl⟩: ∃g,f=g+1:=⟨f -1,by lia⟩
  have e:Kx (.mul a b)++r=Kr "mul("++(Kx a++44::(Kx b++41::r)):=by simp[Kx]
  have h1:=Q5 a h.1 f (by lia) (44::(Kx b++41::r)) (Mk.cons44 _);have h2:=Q5 b h.2 f (by lia) (41::r) (Mk.cons41 _);rw[e];exact .trans (by kernel_rfl) (R4 (f:=Lo f) (g:=Kcp0.Exp.mul) h1 h2)
theorem N2: ∀(f:Nat)(l:List Nat)(e:Exp)(r:List Nat),Lo f l=some (e,r)->l=Kx e++r/\O3 e=true
 |0,l,e,r,h=>by cases h
 |f+1,l,e,r,h=>by
  unfold Lo at h
  cases hq:Lf "add(" l with
  |some q=>rw[hq]at h;simp only at h;obtain⟨x,y,r1,h1,h2,rfl⟩:=J2 h;obtain⟨a1,a2⟩:=N2 f _ _ _ h1;obtain⟨b1,b2⟩:=N2 f _ _ _ h2;refine⟨?_,by simp[O3,a2,b2]⟩;rw[E1 _ _ _ hq,a1,b1];simp[Kx]
  |none=>
   rw[hq]at h
   cases hq:Lf "sub(" l with
   |some q=>rw[hq]at h;simp only at h;obtain⟨x,y,r1,h1,h2,rfl⟩:=J2 h;obtain⟨a1,a2⟩:=N2 f _ _ _ h1;obtain⟨b1,b2⟩:=N2 f _ _ _ h2;refine⟨?_,by simp[O3,a2,b2]⟩;rw[E1 _ _ _ hq,a1,b1];simp[Kx]
   |none=>
    rw[hq]at h
    cases hq:Lf "mul(" l with
    |some q=>rw[hq]at h;simp only at h;obtain⟨x,y,r1,h1,h2,rfl⟩:=J2 h;obtain⟨a1,a2⟩:=N2 f _ _ _ h1;obtain⟨b1,b2⟩:=N2 f _ _ _ h2;refine⟨?_,by simp[O3,a2,b2]⟩;rw[E1 _ _ _ hq,a1,b1];simp[Kx]
    |none=>
     rw[hq]at h;simp only at h;have hS:Kcp0.SEEN=8:=rfl
     cases l with
     |nil=>cases h
     |cons c s=>
      simp only at h;split at h
      ·rename_i hc;dsimp[Gy,Hx]at h;obtain⟨rfl,rfl⟩:=h;refine⟨?_,by simp[O3];lia⟩;have:97+(c -97)=c:=by lia
       simp[Kx,this]
      ·cases hi:Md (c::s) with
       |none=>rw[hi]at h;cases h
       |some x=>obtain⟨z,q⟩:=x;rw[hi]at h;dsimp[Hg,Gy,Hx]at h;obtain⟨rfl,rfl⟩:=h;obtain⟨h1,h2⟩:=A8H hi;exact⟨h1,by simp[O3];lia⟩
theorem W3: ∀(e:Cond),V5 e=true->∀f,(K2 e).length<=f->∀r,Mk r->Mf f (La e++r)=some (e,r)
 |.le a b,h,f,hf,r,hr=>by
  dsimp[V5,Ga]at h;dsimp[K2,Gg,Ge,Gr]at hf;obtain⟨f,rfl⟩: ∃g,f=g+1:=⟨f -1,by lia⟩
  have e:La (.le a b)++r=Kr "le("++(Kx a++44::(Kx b++41::r)):=by simp[La]
  have h1:=Q5 a h.1 f (by lia) (44::(Kx b++41::r)) (Mk.cons44 _);have h2:=Q5 b h.2 f (by lia) (41::r) (Mk.cons41 _);rw[e];exact .trans (by kernel_rfl) (R4 (f:=Lo f) (g:=Kcp0.Cond.le) h1 h2)
 |.lt a b,h,f,hf,r,hr=>by
  dsimp[V5,Ga]at h;dsimp[K2,Gg,Ge,Gr]at hf;obtain⟨f,rfl⟩: ∃g,f=g+1:=⟨f -1,by lia⟩
  have e:La (.lt a b)++r=Kr "lt("++(Kx a++44::(Kx b++41::r)):=by simp[La]
  have h1:=Q5 a h.1 f (by lia) (44::(Kx b++41::r)) (Mk.cons44 _);have h2:=Q5 b h.2 f (by lia) (41::r) (Mk.cons41 _);rw[e];exact .trans (by kernel_rfl) (R4 (f:=Lo f) (g:=Kcp0.Cond.lt) h1 h2)
 |.not_ a,h,f,hf,r,hr=>by
  dsimp[V5]at h;dsimp[K2,Gg,Ge,Gr]at hf;obtain⟨f,rfl⟩: ∃g,f=g+1:=⟨f -1,by lia⟩
  have e:La (.not_ a)++r=Kr "not("++(La a++41::r):=by simp[La]
  have h1:=W3 a h f (by lia) (41::r) (Mk.cons41 _);rw[e];exact .trans (by kernel_rfl) (A8s (g1:=Kcp0.Cond.not_) h1)
 |.all_ a b,h,f,hf,r,hr=>by
  dsimp[V5,Ga]at h;dsimp[K2,Gg,Ge,Gr]at hf;obtain⟨f,rfl⟩: ∃g,f=g+1:=⟨f -1,by lia⟩
  have e:La (.all_ a b)++r=Kr "all("++(La a++44::(La b++41::r)):=by simp[La]
  have h1:=W3 a h.1 f (by lia) (44::(La b++41::r)) (Mk.cons44 _);have h2:=W3 b h.2 f (by lia) (41::r) (Mk.cons41 _);rw[e];exact .trans (by kernel_rfl) (R4 (f:=Mf f) (g:=Kcp0.Cond.all_) h1 h2)
 |.some_ a b,h,f,hf,r,hr=>by
  dsimp[V5,Ga]at h;dsimp[K2,Gg,Ge,Gr]at hf;obtain⟨f,rfl⟩: ∃g,f=g+1:=⟨f -1,by lia⟩
  have e:La (.some_ a b)++r=Kr "some("++(La a++44::(La b++41::r)):=by simp[La]
  have h1:=W3 a h.1 f (by lia) (44::(La b++41::r)) (Mk.cons44 _);have h2:=W3 b h.2 f (by lia) (41::r) (Mk.cons41 _);rw[e];exact .trans (by kernel_rfl) (R4 (f:=Mf f) (g:=Kcp0.Cond.some_) h1 h2)
theorem T7: ∀(f:Nat)(l:List Nat)(e:Cond)(r:List Nat),Mf f l=some (e,r)->l=La e++r/\V5 e=true
 |0,l,e,r,h=>by cases h
 |f+1,l,e,r,h=>by
  unfold Mf at h
  cases hq:Lf "le(" l with
  |some q=>rw[hq]at h;simp only at h;obtain⟨x,y,r1,h1,h2,rfl⟩:=J2 h;obtain⟨a1,a2⟩:=N2 f _ _ _ h1;obtain⟨b1,b2⟩:=N2 f _ _ _ h2;refine⟨?_,by simp[V5,a2,b2]⟩;rw[E1 _ _ _ hq,a1,b1];simp[La]
  |none=>
   rw[hq]at h;simp only at h
   cases hq:Lf "lt(" l with
   |some q=>rw[hq]at h;simp only at h;obtain⟨x,y,r1,h1,h2,rfl⟩:=J2 h;obtain⟨a1,a2⟩:=N2 f _ _ _ h1;obtain⟨b1,b2⟩:=N2 f _ _ _ h2;refine⟨?_,by simp[V5,a2,b2]⟩;rw[E1 _ _ _ hq,a1,b1];simp[La]
   |none=>
    rw[hq]at h;simp only at h
    cases hq:Lf "not(" l with
    |some q=>rw[hq]at h;simp only at h;obtain⟨x,h1,rfl⟩:=A4L h;obtain⟨a1,a2⟩:=T7 f _ _ _ h1;refine⟨?_,by simp[V5,a2]⟩;rw[E1 _ _ _ hq,a1];simp[La]
    |none=>
     rw[hq]at h;simp only at h
     cases hq:Lf "all(" l with
     |some q=>rw[hq]at h;simp only at h;obtain⟨x,y,r1,h1,h2,rfl⟩:=J2 h;obtain⟨a1,a2⟩:=T7 f _ _ _ h1;obtain⟨b1,b2⟩:=T7 f _ _ _ h2;refine⟨?_,by simp[V5,a2,b2]⟩;rw[E1 _ _ _ hq,a1,b1];simp[La]
     |none=>
      rw[hq]at h;simp only at h
      cases hq:Lf "some(" l with
      |some q=>rw[hq]at h;simp only at h;obtain⟨x,y,r1,h1,h2,rfl⟩:=J2 h;obtain⟨a1,a2⟩:=T7 f _ _ _ h1;obtain⟨b1,b2⟩:=T7 f _ _ _ h2;refine⟨?_,by simp[V5,a2,b2]⟩;rw[E1 _ _ _ hq,a1,b1];simp[La]
      |none=>rw[hq]at h;simp only at h;cases h
theorem L5: ∀(e:Con),E5 e=true->∀f,(A9 e).length<=f->∀r,Mk r->Li f (Ks e++r)=some (e,r)
 |.nothing,h,f,hf,r,hr=>by
  dsimp[A9,Ge,Gr]at hf;obtain⟨f,rfl⟩: ∃g,f=g+1:=⟨f -1,by lia⟩
  show Li (f+1) (Kr "nothing"++r)=_;unfold Li Lf;rw[B4z]
 |.one u,h,f,hf,r,hr=>by
  dsimp[E5,Gb]at h;dsimp[A9,Ge,Gr]at hf;obtain⟨f,rfl⟩: ∃g,f=g+1:=⟨f -1,by lia⟩
  have e:Ks (.one u)++r=Kr "one("++((65+u)::41::r):=by simp[Ks]
  have hU:Kcp0.UNITS=4:=rfl;rw[e];unfold Li Lf;dsimp[B6p,B6k,B6m,C1u,C1t,B6l,B6o,B2J,A35,B3N,B2K,C1s,B2I,A9D,C1v,C1w,B2H,B6n,Jr,Iq,Lg,if_true,reduceIte,Nat.reduceEqDiff];rw[Gf (by lia)];simp
 |.both a b,h,f,hf,r,hr=>by
  dsimp[E5,Ga,Gb]at h;dsimp[A9,Gg,Ge,Gr]at hf;obtain⟨f,rfl⟩: ∃g,f=g+1:=⟨f -1,by lia⟩
  have e:Ks (.both a b)++r=Kr "both("++(Ks a++44::(Ks b++41::r)):=by simp[Ks]
  have h1:=L5 a h.1 f (by lia) (44::(Ks b++41::r)) (Mk.cons44 _);have h2:=L5 b h.2 f (by lia) (41::r) (Mk.cons41 _);rw[e];exact .trans (by kernel_rfl) (R4 (f:=Li f) (g:=Kcp0.Con.both) h1 h2)
 |.or_ a b,h,f,hf,r,hr=>by
  dsimp[E5,Ga,Gb]at h;dsimp[A9,Gg,Ge,Gr]at hf;obtain⟨f,rfl⟩: ∃g,f=g+1:=⟨f -1,by lia⟩
  have e:Ks (.or_ a b)++r=Kr "or("++(Ks a++44::(Ks b++41::r)):=by simp[Ks]
  have h1:=L5 a h.1 f (by lia) (44::(Ks b++41::r)) (Mk.cons44 _);have h2:=L5 b h.2 f (by lia) (41::r) (Mk.cons41 _);rw[e];exact .trans (by kernel_rfl) (R4 (f:=Li f) (g:=Kcp0.Con.or_) h1 h2)
 |.turn a,h,f,hf,r,hr=>by
  dsimp[E5,Ga,Gb]at h;dsimp[A9,Gg,Ge,Gr]at hf;obtain⟨f,rfl⟩: ∃g,f=g+1:=⟨f -1,by lia⟩
  have e:Ks (.turn a)++r=Kr "turn("++(Ks a++41::r):=by simp[Ks]
  have h1:=L5 a h f (by lia) (41::r) (Mk.cons41 _);rw[e];exact .trans (by kernel_rfl) (A8s (g1:=Kcp0.Con.turn) h1)
 |.times x a,h,f,hf,r,hr=>by
  dsimp[E5,Ga,Gb]at h;dsimp[A9,Gg,Ge,Gr]at hf;obtain⟨f,rfl⟩: ∃g,f=g+1:=⟨f -1,by lia⟩
  have e:Ks (.times x a)++r=Kr "times("++(Kx x++44::(Ks a++41::r)):=by simp[Ks]
  have h1:=Q5 x h.1 f (by lia) (44::(Ks a++41::r)) (Mk.cons44 _);have h2:=L5 a h.2 f (by lia) (41::r) (Mk.cons41 _);rw[e];exact .trans (by kernel_rfl) (R4 (f:=Li f) (g:=Kcp0.Con.times) h1 h2)
 |.if_ x a b,h,f,hf,r,hr=>by
  dsimp[E5,Ga,Gb]at h;dsimp[A9,Gg,Ge,Gr]at hf;obtain⟨f,rfl⟩: ∃g,f=g+1:=⟨f -1,by lia⟩
  have e:Ks (.if_ x a b)++r=Kr "if("++(La x++44::(Ks a++44::(Ks b++41::r))):=by simp[Ks]
  have h1:=W3 x h.1.1 f (by lia) (44::(Ks a++44::(Ks b++41::r))) (Mk.cons44 _);have h2:=L5 a h.1.2 f (by lia) (44::(Ks b++41::r)) (Mk.cons44 _);have h3:=L5 b h.2 f (by lia) (41::r) (Mk.cons41 _);rw[e];exact .trans (by kernel_rfl) (A8l (f:=Li f) (f2:=Li f) (g3:=Kcp0.Con.if_) h1 h2 h3)
 |.at_ d a,h,f,hf,r,hr=>by
  dsimp[E5,Ga,Gb]at h;dsimp[A9,Gg,Ge,Gr]at hf;obtain⟨f,rfl⟩: ∃g,f=g+1:=⟨f -1,by lia⟩
  have e:Ks (.at_ d a)++r=Kr "at("++(Kv d++44::(Ks a++41::r)):=by simp[Ks]
  have h1:=A6V (n:=d) h.1 (r:=44::(Ks a++41::r)) (Mk.dig (Mk.cons44 _));have h2:=L5 a h.2 f (by lia) (41::r) (Mk.cons41 _);rw[e];exact .trans (by kernel_rfl) (R4 (f:=Li f) (g:=Kcp0.Con.at_) h1 h2)
 |.when_ d x a,h,f,hf,r,hr=>by
  dsimp[E5,Ga,Gb]at h;dsimp[A9,Gg,Ge,Gr]at hf;obtain⟨f,rfl⟩: ∃g,f=g+1:=⟨f -1,by lia⟩
  have e:Ks (.when_ d x a)++r=Kr "when("++(Kv d++44::(La x++44::(Ks a++41::r))):=by simp[Ks]
  have h1:=A6V (n:=d) h.1.1 (r:=44::(La x++44::(Ks a++41::r))) (Mk.dig (Mk.cons44 _));have h2:=W3 x h.1.2 f (by lia) (44::(Ks a++41::r)) (Mk.cons44 _);have h3:=L5 a h.2 f (by lia) (41::r) (Mk.cons41 _);rw[e];exact .trans (by kernel_rfl) (A8l (f:=Mf f) (f2:=Li f) (g3:=Kcp0.Con.when_) h1 h2 h3)
 |.any_ d a,h,f,hf,r,hr=>by
  dsimp[E5,Ga,Gb]at h;dsimp[A9,Gg,Ge,Gr]at hf;obtain⟨f,rfl⟩: ∃g,f=g+1:=⟨f -1,by lia⟩
  have e:Ks (.any_ d a)++r=Kr "any("++(Kv d++44::(Ks a++41::r)):=by simp[Ks]
  have h1:=A6V (n:=d) h.1 (r:=44::(Ks a++41::r)) (Mk.dig (Mk.cons44 _));have h2:=L5 a h.2 f (by lia) (41::r) (Mk.cons41 _);rw[e];exact .trans (by kernel_rfl) (R4 (f:=Li f) (g:=Kcp0.Con.any_) h1 h2)
theorem K7: ∀(f:Nat)(l:List Nat)(e:Con)(r:List Nat),Li f l=some (e,r)->l=Ks e++r/\E5 e=true
 |0,l,e,r,h=>by cases h
 |f+1,l,e,r,h=>by
  unfold Li at h
  cases hq:Lf "nothing" l with
  |some q=>rw[hq]at h;dsimp[Gy,Hx]at h;obtain⟨rfl,rfl⟩:=h;exact⟨E1 _ _ _ hq,rfl⟩
  |none=>
   rw[hq]at h;simp only at h
   cases hq:Lf "one(" l with
   |some q=>
    rw[hq]at h
    cases q with
    |nil=>cases h
    |cons c q=>
     simp only at h;have hU:Kcp0.UNITS=4:=rfl;split at h
     ·rename_i hc
      cases he:Lg [41] q with
      |none=>rw[he]at h;cases h
      |some t=>
       rw[he]at h;dsimp[Hg,Gy,Hx]at h;obtain⟨rfl,rfl⟩:=h;have e2:=(B0i 41 q t).mp he;have e3:65+(c -65)=c:=by lia
       refine⟨?_,by simp[E5];lia⟩;rw[E1 _ _ _ hq,e2];simp[Ks,e3]
     ·cases h
   |none=>
    rw[hq]at h;simp only at h
    cases hq:Lf "both(" l with
    |some q=>rw[hq]at h;simp only at h;obtain⟨x1,x2,r1,h1,h2,rfl⟩:=J2 h;obtain⟨a1,b1⟩:=K7 f _ _ _ h1;obtain⟨a2,b2⟩:=K7 f _ _ _ h2;refine⟨?_,by simp[E5,b1,b2]⟩;rw[E1 _ _ _ hq,a1,a2];simp[Ks]
    |none=>
     rw[hq]at h;simp only at h
     cases hq:Lf "or(" l with
     |some q=>rw[hq]at h;simp only at h;obtain⟨x1,x2,r1,h1,h2,rfl⟩:=J2 h;obtain⟨a1,b1⟩:=K7 f _ _ _ h1;obtain⟨a2,b2⟩:=K7 f _ _ _ h2;refine⟨?_,by simp[E5,b1,b2]⟩;rw[E1 _ _ _ hq,a1,a2];simp[Ks]
     |none=>
      rw[hq]at h;simp only at h
      cases hq:Lf "turn(" l with
      |some q=>rw[hq]at h;simp only at h;obtain⟨x1,h1,rfl⟩:=A4L h;obtain⟨a1,b1⟩:=K7 f _ _ _ h1;refine⟨?_,by simp[E5,b1]⟩;rw[E1 _ _ _ hq,a1];simp[Ks]
      |none=>
       rw[hq]at h;simp only at h
       cases hq:Lf "times(" l with
       |some q=>rw[hq]at h;simp only at h;obtain⟨x1,x2,r1,h1,h2,rfl⟩:=J2 h;obtain⟨a1,b1⟩:=N2 f _ _ _ h1;obtain⟨a2,b2⟩:=K7 f _ _ _ h2;refine⟨?_,by simp[E5,b1,b2]⟩;rw[E1 _ _ _ hq,a1,a2];simp[Ks]
       |none=>
        rw[hq]at h;simp only at h
        cases hq:Lf "if(" l with
        |some q=>rw[hq]at h;simp only at h;obtain⟨x1,x2,x3,r1,r2,h1,h2,h3,rfl⟩:=A4K h;obtain⟨a1,b1⟩:=T7 f _ _ _ h1;obtain⟨a2,b2⟩:=K7 f _ _ _ h2;obtain⟨a3,b3⟩:=K7 f _ _ _ h3;refine⟨?_,by simp[E5,b1,b2,b3]⟩;rw[E1 _ _ _ hq,a1,a2,a3];simp[Ks]
        |none=>
         rw[hq]at h;simp only at h
         cases hq:Lf "at(" l with
         |some q=>rw[hq]at h;simp only at h;obtain⟨x1,x2,r1,h1,h2,rfl⟩:=J2 h;obtain⟨a1,b1⟩:=A4y h1;obtain⟨a2,b2⟩:=K7 f _ _ _ h2;refine⟨?_,by simp[E5,b1,b2]⟩;rw[E1 _ _ _ hq,a1,a2];simp[Ks]
         |none=>
          rw[hq]at h;simp only at h
          cases hq:Lf "when(" l with
          |some q=>rw[hq]at h;simp only at h;obtain⟨x1,x2,x3,r1,r2,h1,h2,h3,rfl⟩:=A4K h;obtain⟨a1,b1⟩:=A4y h1;obtain⟨a2,b2⟩:=T7 f _ _ _ h2;obtain⟨a3,b3⟩:=K7 f _ _ _ h3;refine⟨?_,by simp[E5,b1,b2,b3]⟩;rw[E1 _ _ _ hq,a1,a2,a3];simp[Ks]
          |none=>
           rw[hq]at h;simp only at h
           cases hq:Lf "any(" l with
           |some q=>rw[hq]at h;simp only at h;obtain⟨x1,x2,r1,h1,h2,rfl⟩:=J2 h;obtain⟨a1,b1⟩:=A4y h1;obtain⟨a2,b2⟩:=K7 f _ _ _ h2;refine⟨?_,by simp[E5,b1,b2]⟩;rw[E1 _ _ _ hq,a1,a2];simp[Ks]
           |none=>rw[hq]at h;simp only at h;cases h
def A3t(l:List Nat)(c:Con):Lw l=some c↔l.length<=600/\E5 c=true/\l=Ks c:=by
 have hL:Kcp0.LONG=600:=rfl;unfold Lw;constructor
 ·intro h;split at h
  ·cases h
  ·rename_i hl
   cases hc:Li (l.length+1) l with
   |none=>rw[hc]at h;cases h
   |some x=>
    obtain⟨c',r⟩:=x;rw[hc]at h
    cases r with
    |nil=>dsimp[Gy]at h;subst h;obtain⟨h1,h2⟩:=K7 _ _ _ _ hc;exact⟨by lia,h2,by simpa using h1⟩
    |cons _ _=>cases h
 ·rintro⟨h1,h2,rfl⟩;rw[Gd (by lia)];have:=L5 c h2 ((Ks c).length+1) (by have:=(A1N c h2).2;lia) [] (λc hc=>by simp at hc);rw[Hw]at this;rw[this]
def B0X{a b:Con}(ha:E5 a=true)(hb:E5 b=true)(h:Ks a=Ks b):a=b:=by have h1:=L5 a ha (max (A9 a).length (A9 b).length) (by lia) [] (λc hc=>by simp at hc);have h2:=L5 b hb (max (A9 a).length (A9 b).length) (by lia) [] (λc hc=>by simp at hc);rw[h,h2]at h1;simp at h1;exact h1.symm
def A82(T:Txt P w K mg):Cal P w K mg base 1 "is_day" ["number"] (inl K (A0q) 1 []):=T.B8d.g T (A0q) [] (λ_ _=>trivial) (λ_ _ _ _ q=>q)
def A5f(T:Txt P w K mg):Cal P w K mg base 1 "is_short" ["number"] (inl K (W5) 1 []):=T.B3k.g T (W5) [] (λ_ _=>trivial) (λ_ _ _ _ q=>q)
def A11(T:Txt P w K mg):Cal P w K mg base 1 "can_be_seen" ["value"] (inl K (M1) 1 []):=T.A7Z.g T (M1) [] (λ_ _=>trivial) (λ_ _ _ _ q=>q)
def A73(T:Txt P w K mg):Cal P w K mg base 1 "is_nothing" ["promise"] (inl K (E3) 1 []):=T.B0h.g T (E3) [] (λ_ _=>trivial) (λ_ _ _ _ q=>q)
def A4A(T:Txt P w K mg){C4:Sp}(O5:Cal P w K mg base 3 "joined" ["word","parts"] C4) {T9:Sp}(A0m:Cal P w K mg base 1 "combined" ["word","first","second"] T9) {K9:Sp}(c_is_short:Cal P w K mg base 1 "is_short" ["number"] K9) {G0:Sp}(O7:Cal P w K mg base 3 "number_part" ["number"] G0):Cal P w K mg base 4 "tidied_amount" ["word","parts"] (inl K (O6 T9 K9 G0 C4) 2 [none]):=T.A5E.g T (O6 _ _ _ _) [none] (by nomatch O5,A0m,c_is_short,O7) (λ_ _ _ _ q=>q)
def A6W(T:Txt P w K mg){F6:Sp}(c_is_nothing:Cal P w K mg base 1 "is_nothing" ["promise"] F6) {C4:Sp}(O5:Cal P w K mg base 3 "joined" ["word","parts"] C4):Cal P w K mg base 4 "tidied_both" ["parts"] (inl K (A0D F6 C4) 1 []):=T.A7X.g T (A0D _ _) [] (by nomatch c_is_nothing,O5) (λ_ _ _ _ q=>q)
def A5F(T:Txt P w K mg){C4:Sp}(O5:Cal P w K mg base 3 "joined" ["word","parts"] C4):Cal P w K mg base 4 "tidied_times" ["parts"] (inl K (A0n C4) 1 []):=T.A6C.g T (A0n _) [] (by nomatch O5) (λ_ _ _ _ q=>q)
def J8(T:Txt P w K mg):Cal P w K mg base 1 "has_promise" ["desk","c"] (inl K (B3) 2 []):=T.A7Y.g T (B3) [] (λ_ _=>trivial) (λ_ _ _ _ q=>q)
def A10(T:Txt P w K mg):Cal P w K mg base 1 "has_deal" ["desk","k"] (inl K (O1) 2 []):=T.B3l.g T (O1) [] (λ_ _=>trivial) (λ_ _ _ _ q=>q)
def A6X(T:Txt P w K mg):Cal P w K mg base 1 "is_full" ["desk"] (inl K (Z9) 1 []):=T.B5D.g T (Z9) [] (λ_ _=>trivial) (λ_ _ _ _ q=>q)
def B14(T:Txt P w K mg):Cal P w K mg base 1 "stand_in" ["party","who","to"] (inl K (O0) 3 []):=T.A27.g T (O0) [] (λ_ _=>trivial) (λ_ _ _ _ q=>q)
def B15(T:Txt P w K mg){K9:Sp}(c_is_short:Cal P w K mg base 1 "is_short" ["number"] K9) {Z8:Sp}(c_is_day:Cal P w K mg base 1 "is_day" ["number"] Z8):Cal P w K mg base 2 "can_make" ["kind","x"] (inl K (O2 K9 Z8) 2 []):=T.B3m.g T (O2 _ _) [] (by nomatch c_is_short,c_is_day) (λ_ _ _ _ q=>q)
inductive B1a(vs:List V)(H:Hp)(Q:VK)(E:XK):Prop
 |mk(n:Nd)(l:Nh)(as:List Nh)(_:vs=[.str (.ofString n.wd),.ref l])(_:n.kids≠[])(_:n.made=true)(_:n.wf=true)(_:H l=some (.tup (as.map V.ref)))(_:B4 H as (n.kids.map K8))(_:(∀m∈n.kids,(K8 m).txt.length<=20000))(_: ∀H' r,A5 H H'->B0 H' r (K8 n)->Q (.ref r) H')
def T3{c:Con}:(Nd.con c).wd="nothing"↔c=.nothing:=by cases c<;>simp[Nd.wd]
def K5{c:Exp}:(Nd.exp c).wd="number"↔∃z,c=.num z:=by cases c<;>simp[Nd.wd]
def B3L{c:Con}:(Nd.con c).wd="turn"↔∃x,c=.turn x:=by cases c<;>simp[Nd.wd]
def C3R{c:Con}:(Nd.con c).wd="at"↔∃d x,c=.at_ d x:=by cases c<;>simp[Nd.wd]
def B6i{c:Cond}:(Nd.cnd c).wd="not"↔∃x,c=.not_ x:=by cases c<;>simp[Nd.wd]
def B4.one{H:Hp}{as:List Nh}{n:Nd}(h:B4 H as [n]): ∃a,as=[a]/\B0 H a n:=by
 match as,h with
 |[a],h=>exact⟨a,rfl,h.inv.1⟩
 |[],h=>have:=h.1;simp at this
 |_::_::_,h=>have:=h.1;simp at this
def B4.two{H:Hp}{as:List Nh}{n m:Nd}(h:B4 H as [n,m]): ∃a b,as=[a,b]/\B0 H a n/\B0 H b m:=by
 match as,h with
 |a::as,h=>obtain⟨b,rfl,hb⟩:=h.inv.2.one;exact⟨a,b,rfl,h.inv.1,hb⟩
 |[],h=>have:=h.1;simp at this
def B4.three{H:Hp}{as:List Nh}{n m o:Nd}(h:B4 H as [n,m,o]): ∃a b c,as=[a,b,c]/\B0 H a n/\B0 H b m/\B0 H c o:=by
 match as,h with
 |a::as,h=>obtain⟨b,c,rfl,hb,hc⟩:=h.inv.2.two;exact⟨a,b,c,rfl,h.inv.1,hb,hc⟩
 |[],h=>have:=h.1;simp at this
def B99{n d:Nat}(hd:d<10)(h:Kv n=[48+d]):n=d:=by
 unfold Kv Le at h;split at h
 ·have:=List.cons.inj h;lia
 ·rename_i hn;have:=Hm List.length h;unfold Le at this;split at this<;>simp at this
def B4a{e:Exp}{d:Nat}(hd:d<10)(h:Kx e=[48+d]):e=.num (d:Int):=by
 cases e with
 |num z=>
  dsimp[Kx,Kz]at h;split at h
  ·have:=Hm List.length h;have:=P7 (-z).toNat;simp at *;lia
  ·have:=B99 hd h;congr 1;lia
 |seen k=>simp[Kx]at h;lia
 |add a b=>have:=Hm List.length h;simp[Kx,Kr]at this
 |sub a b=>have:=Hm List.length h;simp[Kx,Kr]at this
 |mul a b=>have:=Hm List.length h;simp[Kx,Kr]at this
def B6v{e:Exp}(h:O3 e=true):S (Nd.exp e).txt=("0":Str)↔e=.num 0:=by rw[<-L6,A5K];exact⟨λq=>B4a (d:=0) (by decide) q,λq=>by subst q;rfl⟩
def B86{e:Exp}(h:O3 e=true):S (Nd.exp e).txt=("1":Str)↔e=.num 1:=by rw[<-L6,A5K];exact⟨λq=>B4a (d:=1) (by decide) q,λq=>by subst q;rfl⟩
def B0t:T.A3E.C T base 5 (B1a):=by
 have cN:=A73 (base:=base) T;have cJ:=O5 (base:=base) T;refine T.A3E.g T (C2 _ _ _ _ _) [] (by nomatch cJ,A4A T (A0m:=A0m T) (c_is_short:=A5f T) (O7:=O7 T) (O5:=cJ),A6W T (c_is_nothing:=cN) (O5:=cJ),cN,A5F T cJ) ?_;obtain⟨n,l,as,rfl,hk0,hm,hw,hl,hp,ht,k⟩;have J: ∀n':Nd,n'.wd=n.wd->n'.made=true->n'.kids=n.kids.map K8->K8 n=n'->U8 [.str (.ofString n.wd),.ref l] H Q E0:=λn' e1 e2 e3 e4=>⟨n',l,as,by rw[e1],e2,hl,by rw[e3];exact hp,by rw[e3];intro m hm;obtain⟨y,hy,rfl⟩:=Ip.mp hm;exact ht y hy,λH' r s h=>k H' r s (by rw[e4];exact h)⟩;have J0:K8 n=.con .nothing->∀p,H p=none->U8 [.str (.ofString "nothing"),.ref p] (upd H p (.tup [])) Q E0:=λe p hp=>⟨.con .nothing,p,[],rfl,rfl,A3,.nil,by simp[Nd.kids],λH' r s h=>k H' r ((A5.new hp).trans s) (by rw[e];exact h)⟩;have R: ∀r,B0 H r (K8 n)->Q (.ref r) H:=λr h=>k H r (A5.refl H) h
 cases n with
 |day d=>simp[Nd.kids]at hk0
 |unit d=>simp[Nd.kids]at hk0
 |con c=>
  cases c with
  |nothing=>simp[Nd.kids]at hk0
  |one u=>simp+decide [C2,↓Tp hl];exact J (.con (.one u)) rfl rfl rfl rfl
  |both a b=>
   obtain⟨p,q,rfl,(pp:B0 H p (.con (Kw a))),(pq:B0 H q (.con (Kw b)))⟩:=hp.two;obtain⟨d1,l1,k1,c1,_⟩:=pp.cell;obtain⟨d2,l2,k2,c2,_⟩:=pq.cell;simp+decide [C2,↓Tp hl,A0D,E3,↓Ob c1,↓Ob c2,T3];dsimp[K8,Kw]at J R;split
   ·rename_i h1;rw[h1]at R;exact R q pq
   ·rename_i h1;split
    ·rename_i h2;refine R p ?_;rw[h2];split
     ·rename_i h;exact Gn h h1
     ·exact pp
     ·exact Gn rfl (by assumption)
    ·rename_i h2;refine J (.con (.both (Kw a) (Kw b))) rfl rfl rfl ?_;split
     ·rename_i h;exact Gn h h1
     ·exact Gn (by assumption) h2
     ·rfl
  |or_ a b=>
   obtain⟨p,q,rfl,(pp:B0 H p (.con (Kw a))),(pq:B0 H q (.con (Kw b)))⟩:=hp.two;obtain⟨d1,l1,k1,c1,_⟩:=pp.cell;obtain⟨d2,l2,k2,c2,_⟩:=pq.cell;simp+decide [C2,↓Tp hl,E3,↓Ob c1,↓Ob c2,T3];dsimp[K8,Kw]at J R;split
   ·rename_i h1;split
    ·rename_i h2;rw[h1,h2]at R;rw[h1]at pp;exact R p pp
    ·rename_i h2;exact J (.con (.or_ (Kw a) (Kw b))) rfl rfl rfl (by rw[h1];split<;>first|rfl|(rename_i h;exact Gn h h2))
   ·rename_i h1;exact J (.con (.or_ (Kw a) (Kw b))) rfl rfl rfl (by split<;>first|rfl|(rename_i h _;exact Gn h h1))
  |turn a=>
   obtain⟨p,rfl,(pp:B0 H p (.con (Kw a)))⟩:=hp.one;obtain⟨d1,l1,k1,c1,g1,e1⟩:=pp.cell;simp+decide [C2,↓Tp hl,E3,↓Ob c1,↓Tp g1,T3];dsimp[K8,Kw]at J R;split
   ·rename_i h1;rw[h1]at R pp;exact R p pp
   ·rename_i h1;split
    ·rename_i h2;obtain⟨x,h2⟩:=B3L.mp h2;rw[h2]at R e1;obtain⟨q,rfl,pq⟩:=B4.one e1;simp;exact R q pq
    ·rename_i h2;exact J (.con (.turn (Kw a))) rfl rfl rfl (by split<;>first|rfl|(rename_i h;exact Gn h h1)|(rename_i h;exact Gn (B3L.mpr ⟨_,h⟩) h2))
  |times x a=>
   obtain⟨p,q,rfl,(pp:B0 H p (.exp (Lb x))),(pq:B0 H q (.con (Kw a)))⟩:=hp.two;obtain⟨d1,l1,k1,c1,_⟩:=pp.cell;obtain⟨d2,l2,k2,c2,_⟩:=pq.cell;simp+decide [C2,↓Tp hl,E3,↓Ob c1,↓Ob c2,A0n,T3];dsimp[K8,Kw]at J0 R;dsimp[Nd.wf,E5,Ga]at hw;have hwx:=(E8 x hw.1).1;dsimp[B6v hwx,B86 hwx];have hkd:(Nd.con (Kcp0.Con.times x a)).kids.map K8=[.exp (Lb x),.con (Kw a)]:=rfl;rw[hkd]at J;dsimp[K8,Kw]at J;generalize Lb x=X at *;generalize Kw a=A at *;split
   ·rename_i h1;subst h1;exact R q pq
   ·rename_i h1;split
    ·rename_i h2;subst h2;exact J0 (by cases A<;>first|rfl|(exact Gn rfl h1))
    ·rename_i h2;split
     ·rename_i h3;subst h3;refine R q ?_;cases A<;>first|(exact Gn rfl h1)|exact pq
     ·rename_i h3;refine J (.con (.times X A)) rfl rfl rfl ?_
      cases X with
      |num z=>have hz0:z≠0:=λe=>h2 (by rw[e]);have hz1:z≠1:=λe=>h3 (by rw[e]);cases A<;>first|(exact Gn rfl h1)|simp[hz0,hz1]
      |_=>cases A<;>first|rfl|(exact Gn rfl h1)
  |if_ b x y=>
   obtain⟨p,q,r,rfl,(pp:B0 H p (.cnd (Lh b))),(pq:B0 H q (.con (Kw x))),(pr:B0 H r (.con (Kw y)))⟩:=hp.three;obtain⟨d1,l1,k1,c1,_⟩:=pp.cell;obtain⟨d2,l2,k2,c2,_⟩:=pq.cell;obtain⟨d3,l3,k3,c3,_⟩:=pr.cell;simp+decide [C2,↓Tp hl,E3,↓Ob c1,↓Ob c2,↓Ob c3];dsimp[K8,Kw]at J R;dsimp[Nd.wf,E5,Ga]at hw;split
   ·rename_i h1;have h2:=B0X (J3 x hw.1.2).1 (J3 y hw.2).1 h1;rw[Gf h2]at R;exact R q pq
   ·rename_i h1;exact J (.con (.if_ (Lh b) (Kw x) (Kw y))) rfl rfl rfl (by rw[Gd (λz=>h1 (by rw[z]))])
  |at_ d a=>
   obtain⟨p,q,rfl,(pp:B0 H p (.day d)),(pq:B0 H q (.con (Kw a)))⟩:=hp.two;obtain⟨d1,l1,k1,c1,_⟩:=pp.cell;obtain⟨d2,l2,k2,c2,g2,e2⟩:=pq.cell;dsimp[K8,Kw]at J0 R;by_cases h2: ∃e x,Kw a=.at_ e x
   ·obtain⟨e,x,h2⟩:=h2;rw[h2]at e2;obtain⟨u,v,rfl,pu,pv⟩:=B4.two e2;obtain⟨d4,l4,k4,c4,_⟩:=pu.cell;simp+decide [C2,↓Tp hl,E3,↓Ob c1,↓Ob c2,↓Tp g2,↓Ob c4,h2];rw[h2]at J0 pq;dsimp[K8,Kw]at J;rw[h2]at J;dsimp[Nd.val,Int.ofNat_lt];split
    ·rename_i h3;exact J0 (by simp[h3])
    ·rename_i h3;exact J (.con (.at_ d (.at_ e x))) rfl rfl (by simp[Nd.kids,K8,h2]) (by simp[h3])
   ·simp+decide [C2,↓Tp hl,E3,↓Ob c1,↓Ob c2,↓Tp g2,T3];have h3: ¬(Nd.con (Kw a)).wd="at":=λz=>h2 (C3R.mp z)
    try dsimp[Gd h3]
    split
    ·rename_i h1;rw[h1]at R pq;exact R q pq
    ·rename_i h1;dsimp[K8,Kw]at J;exact J (.con (.at_ d (Kw a))) rfl rfl rfl (by split<;>first|rfl|(rename_i h;exact Gn h h1)|(rename_i h;exact Gn ⟨_,_,h⟩ h2))
  |when_ d b a=>
   obtain⟨p,q,r,rfl,pp,pq,(pr:B0 H r (.con (Kw a)))⟩:=hp.three;obtain⟨d3,l3,k3,c3,_⟩:=pr.cell;simp+decide [C2,↓Tp hl,E3,↓Ob c3,T3];dsimp[K8,Kw]at J R;split
   ·rename_i h1;rw[h1]at R pr;exact R r pr
   ·rename_i h1;exact J (.con (.when_ d (Lh b) (Kw a))) rfl rfl rfl (by split<;>first|rfl|(rename_i h;exact Gn h h1))
  |any_ d a=>
   obtain⟨p,q,rfl,pp,(pq:B0 H q (.con (Kw a)))⟩:=hp.two;obtain⟨d2,l2,k2,c2,_⟩:=pq.cell;simp+decide [C2,↓Tp hl,E3,↓Ob c2,T3];dsimp[K8,Kw]at J R;split
   ·rename_i h1;rw[h1]at R pq;exact R q pq
   ·rename_i h1;exact J (.con (.any_ d (Kw a))) rfl rfl rfl (by split<;>first|rfl|(rename_i h;exact Gn h h1))
 |cnd c=>
  cases c with
  |not_ a=>
   obtain⟨p,rfl,(pp:B0 H p (.cnd (Lh a)))⟩:=hp.one;obtain⟨d1,l1,k1,c1,g1,e1⟩:=pp.cell;simp+decide [C2,↓Tp hl,E3,↓Ob c1,↓Tp g1];dsimp[K8,Lh]at J R;split
   ·rename_i h2;obtain⟨x,h2⟩:=B6i.mp h2;rw[h2]at R e1;obtain⟨q,rfl,pq⟩:=B4.one e1;simp;exact R q pq
   ·rename_i h2;exact J (.cnd (.not_ (Lh a))) rfl rfl rfl (by split<;>first|rfl|(rename_i h;exact Gn (B6i.mpr ⟨_,h⟩) h2))
  |le a b=>simp+decide [C2,↓Tp hl];exact J (.cnd (.le (Lb a) (Lb b))) rfl rfl rfl rfl
  |lt a b=>simp+decide [C2,↓Tp hl];exact J (.cnd (.lt (Lb a) (Lb b))) rfl rfl rfl rfl
  |all_ a b=>simp+decide [C2,↓Tp hl];exact J (.cnd (.all_ (Lh a) (Lh b))) rfl rfl rfl rfl
  |some_ a b=>simp+decide [C2,↓Tp hl];exact J (.cnd (.some_ (Lh a) (Lh b))) rfl rfl rfl rfl
 |exp c=>
  cases c with
  |num z=>simp[Nd.kids]at hk0
  |seen z=>simp[Nd.kids]at hk0
  |add a b=>
   obtain⟨p,q,rfl,(pp:B0 H p (.exp (Lb a))),(pq:B0 H q (.exp (Lb b)))⟩:=hp.two;obtain⟨d1,l1,k1,c1,_⟩:=pp.cell;obtain⟨d2,l2,k2,c2,_⟩:=pq.cell;simp+decide [C2,↓Tp hl,↓Ob c1,↓Ob c2,O6];dsimp[K8,Lb]at J k;dsimp[Nd.wf,O3,Ga]at hw;have hwa:=(E8 a hw.1).1;have hwb:=(E8 b hw.2).1;have JJ:(∀x y,Lb a=.num x->Lb b=.num y->¬(x+y).natAbs<=999999999)->U8 [.str (.ofString "add"),.ref l] H Q E0:=λh=>J (.exp (.add (Lb a) (Lb b))) rfl rfl rfl (by
    split
    ·rename_i hx hy;unfold Lm;rw[R0,Gd (by simpa using h _ _ hx hy),hx,hy]
    ·rfl)
   split
   ·rename_i h1;obtain⟨x,h1⟩:=K5.mp h1;split
    ·rename_i h2;obtain⟨y,h2⟩:=K5.mp h2;rw[h1]at hwa;rw[h2]at hwb;dsimp[O3,Gb]at hwa hwb;rw[h1,h2];refine⟨λ_=>0,.exp (.add (.num x) (.num y)),.exp (.num x),.exp (.num y),rfl,rfl,rfl,?_,?_⟩
     ·intro u v e
      first
       |(cases e;exact A8C (m:=31) (Hr hwa (by decide)) (Hr hwb (by decide)) (by decide))
       |cases e
     ·simp[W5,val,Z0];rw[h1,h2]at k;have neg: ¬(x+y).natAbs<=999999999->U8 [.str (.ofString "add"),.ref l] H Q E0:=λh=>JJ λx' y' hx hy=>by rw[h1]at hx;rw[h2]at hy;cases hx;cases hy;exact h
      generalize hz:x+y=z at *;split
      ·split
       ·have hs:z.natAbs<=999999999:=by omega
        refine⟨z,rfl,hs,λH' r s h=>k H' r s ?_⟩;show B0 H' r (.exp (Lm _ (x+y)));unfold Lm;rw[hz,R0,Gf (by simpa using hs)];exact h
       ·exact neg (by omega)
      ·exact neg (by omega)
    ·rename_i h2;exact JJ λx y _ hy=>Gn (K5.mpr ⟨y,hy⟩) h2
   ·rename_i h1;exact JJ λx y hx _=>Gn (K5.mpr ⟨x,hx⟩) h1
  |sub a b=>
   obtain⟨p,q,rfl,(pp:B0 H p (.exp (Lb a))),(pq:B0 H q (.exp (Lb b)))⟩:=hp.two;obtain⟨d1,l1,k1,c1,_⟩:=pp.cell;obtain⟨d2,l2,k2,c2,_⟩:=pq.cell;simp+decide [C2,↓Tp hl,↓Ob c1,↓Ob c2,O6];dsimp[K8,Lb]at J k;dsimp[Nd.wf,O3,Ga]at hw;have hwa:=(E8 a hw.1).1;have hwb:=(E8 b hw.2).1;have JJ:(∀x y,Lb a=.num x->Lb b=.num y->¬(x -y).natAbs<=999999999)->U8 [.str (.ofString "sub"),.ref l] H Q E0:=λh=>J (.exp (.sub (Lb a) (Lb b))) rfl rfl rfl (by
    split
    ·rename_i hx hy;unfold Lm;rw[R0,Gd (by simpa using h _ _ hx hy),hx,hy]
    ·rfl)
   split
   ·rename_i h1;obtain⟨x,h1⟩:=K5.mp h1;split
    ·rename_i h2;obtain⟨y,h2⟩:=K5.mp h2;rw[h1]at hwa;rw[h2]at hwb;dsimp[O3,Gb]at hwa hwb;rw[h1,h2];refine⟨λ_=>0,.exp (.sub (.num x) (.num y)),.exp (.num x),.exp (.num y),rfl,rfl,rfl,?_,?_⟩
     ·intro u v e
      first
       |(cases e;exact A8C (m:=31) (Hr hwa (by decide)) (Hr hwb (by decide)) (by decide))
       |cases e
     ·simp[W5,val,Z0];rw[h1,h2]at k;have neg: ¬(x -y).natAbs<=999999999->U8 [.str (.ofString "sub"),.ref l] H Q E0:=λh=>JJ λx' y' hx hy=>by rw[h1]at hx;rw[h2]at hy;cases hx;cases hy;exact h
      generalize hz:x -y=z at *;split
      ·split
       ·have hs:z.natAbs<=999999999:=by omega
        refine⟨z,rfl,hs,λH' r s h=>k H' r s ?_⟩;show B0 H' r (.exp (Lm _ (x -y)));unfold Lm;rw[hz,R0,Gf (by simpa using hs)];exact h
       ·exact neg (by omega)
      ·exact neg (by omega)
    ·rename_i h2;exact JJ λx y _ hy=>Gn (K5.mpr ⟨y,hy⟩) h2
   ·rename_i h1;exact JJ λx y hx _=>Gn (K5.mpr ⟨x,hx⟩) h1
  |mul a b=>
   obtain⟨p,q,rfl,(pp:B0 H p (.exp (Lb a))),(pq:B0 H q (.exp (Lb b)))⟩:=hp.two;obtain⟨d1,l1,k1,c1,_⟩:=pp.cell;obtain⟨d2,l2,k2,c2,_⟩:=pq.cell;simp+decide [C2,↓Tp hl,↓Ob c1,↓Ob c2,O6];dsimp[K8,Lb]at J k;dsimp[Nd.wf,O3,Ga]at hw;have hwa:=(E8 a hw.1).1;have hwb:=(E8 b hw.2).1;have JJ:(∀x y,Lb a=.num x->Lb b=.num y->¬(x*y).natAbs<=999999999)->U8 [.str (.ofString "mul"),.ref l] H Q E0:=λh=>J (.exp (.mul (Lb a) (Lb b))) rfl rfl rfl (by
    split
    ·rename_i hx hy;unfold Lm;rw[R0,Gd (by simpa using h _ _ hx hy),hx,hy]
    ·rfl)
   split
   ·rename_i h1;obtain⟨x,h1⟩:=K5.mp h1;split
    ·rename_i h2;obtain⟨y,h2⟩:=K5.mp h2;rw[h1]at hwa;rw[h2]at hwb;dsimp[O3,Gb]at hwa hwb;rw[h1,h2];refine⟨λ_=>0,.exp (.mul (.num x) (.num y)),.exp (.num x),.exp (.num y),rfl,rfl,rfl,?_,?_⟩
     ·intro u v e
      first
       |(cases e;exact A8C (m:=31) (Hr hwa (by decide)) (Hr hwb (by decide)) (by decide))
       |cases e
     ·simp[W5,val,Z0];rw[h1,h2]at k;have neg: ¬(x*y).natAbs<=999999999->U8 [.str (.ofString "mul"),.ref l] H Q E0:=λh=>JJ λx' y' hx hy=>by rw[h1]at hx;rw[h2]at hy;cases hx;cases hy;exact h
      generalize hz:x*y=z at *;split
      ·split
       ·have hs:z.natAbs<=999999999:=by omega
        refine⟨z,rfl,hs,λH' r s h=>k H' r s ?_⟩;show B0 H' r (.exp (Lm _ (x*y)));unfold Lm;rw[hz,R0,Gf (by simpa using hs)];exact h
       ·exact neg (by omega)
      ·exact neg (by omega)
    ·rename_i h2;exact JJ λx y _ hy=>Gn (K5.mpr ⟨y,hy⟩) h2
   ·rename_i h1;exact JJ λx y hx _=>Gn (K5.mpr ⟨x,hx⟩) h1
def B0.updL{H:Hp}{d:Nh}{xs:List V}{o:HO}(hd:H d=some (.lst xs)){a:Nh}{n:Nd}(h:B0 H a n):B0 (upd H d o) a n:=by
 induction h with
 |mk h1 h2 h3 h4 ih=>exact .mk (by rw[A4 (U0 h1 hd (by intro z;cases z))];exact h1) (by rw[A4 (U0 h2 hd (by intro z;cases z))];exact h2) h3 ih
def B4.updL{H:Hp}{d:Nh}{xs:List V}{o:HO}(hd:H d=some (.lst xs)){as:List Nh}{ns:List Nd}(h:B4 H as ns):B4 (upd H d o) as ns:=⟨h.1,λi b m x y=>(h.2 i b m x y).updL hd⟩
theorem B4.split{H:Hp}: ∀{ns ms:List Nd}{as:List Nh},B4 H as (ns++ms)->∃bs cs,as=bs++cs/\B4 H bs ns/\B4 H cs ms
 |[],ms,as,h=>⟨[],as,rfl,.nil,h⟩
 |n::ns,ms,a::as,h=>by obtain⟨bs,cs,rfl,h1,h2⟩:=B4.split (ns:=ns) h.inv.2;exact⟨a::bs,cs,rfl,.cons h.inv.1 h1,h2⟩
 |n::ns,ms,[],h=>by have:=h.1;simp at this
def C24(xs ys:List V):A2t (xs++ys) none (some (xs.length:Int))=xs:=by
 unfold A2t;have h1:HT.sIx (xs++ys).length 0 none=0:=rfl;have h2:HT.sIx (xs++ys).length (xs++ys).length (some (xs.length:Int))=xs.length:=by simp[HT.sIx];lia
 rw[h1,h2];simp
def B8n(xs ys:List V):A2t (xs++ys) (some (xs.length:Int)) none=ys:=by
 unfold A2t;have h2:HT.sIx (xs++ys).length 0 (some (xs.length:Int))=xs.length:=by simp[HT.sIx];lia
 have h1:HT.sIx (xs++ys).length (xs++ys).length none=(xs++ys).length:=rfl;rw[h1,h2];simp
inductive TdI(a r:Nh)(n:Nd)(H1:Hp)(i:Nat)(S:L2.St)(H':Hp):Prop
 |mk(d:Nh)(v2 v3 v4:Option V)(st:List Nd)(bs:List Nh)(_:S=[some (.ref a),some (.ref d),v2,v3,v4])(_:Kp [r] H1 H')(_:(d=r\/H1 d=none))(_:A0e (n.post.take i) []=some st)(_:H' d=some (.lst (bs.map V.ref)))(_:B4 H' bs (st.reverse.map K8))(_: ∃xs,H' r=some (.lst xs)):TdI a r n H1 i S H'
inductive B6I(vs:List V)(H:Hp)(Q:VK)(E:XK):Prop
 |mk(a:Nh)(n:Nd)(_:vs=[.ref a])(_:B0 H a n)(_:n.wf=true)(_:n.post.length<=1000)(_: ∀H' r,A5 H H'->B0 H' r (K8 n)->Q (.ref r) H')
def B8w:T.B1P.C T base 6 (B6I):=by
 refine T.B1P.g T (B2r _ _) [none,none,none,none] (by nomatch A2O T,B0t T) ?_;obtain⟨a,n,rfl,ha,hw,hn,k⟩;simp[B2r];intro r hr;simp;have s1:A5 H (upd H r (.lst [])):=A5.new hr;refine⟨a,n,rfl,ha.mono s1,by lia,?_⟩;intro H1 lp as s2 h1 hp;have hr1:H1 r=some (.lst []):=s2 _ _ A3;have s12:A5 H H1:=s1.trans s2;have nrp:lp≠r:=by
  rintro rfl;rw[hr1]at h1;have:as=[]:=by simpa using h1
  subst this;have:=hp.1;rw[Nd.post_eq]at this;simp at this
 have hall:=B1l (p:=λm=>m.wf=true/\m.post.length<=1000) (λx y h hy=>⟨A4q h.1 hy,Hc (Kg (Nd.kid_lt hy)) h.2⟩) n ⟨hw,hn⟩;have hrun:=B1g n [];simp[↓Ls h1]
 refine Y9 (G:=λH'=>H' lp=some (.lst (as.map V.ref))) (xs:=as.map V.ref) (F3 λH' g=>g)
  (TdI a r n H1)
  ⟨r,none,none,none,[],[],rfl,Kp.refl _ _,.inl rfl,rfl,hr1,.nil,[],hr1⟩ (λi S H' ⟨_,_,_,_,_,_,_,h,_,_,_,_,_⟩=>h _ _ h1 (by simpa using nrp)) ?_ ?_
 ·rintro i v S H' hv' ⟨d,v2,v3,v4,st,bs,rfl,kp,hd0,hst,hd,pb,rs,hrr⟩ N hN;obtain⟨c,hc,rfl⟩:=A6c hv';obtain⟨m,hm,pc⟩:=hp.get hc;obtain⟨dx,lc,ks,c1,c2,c3⟩:=pc.cell;have kc: ∀(b:Nh)(o:HO),H1 b=some o->(∀xs,o≠ .lst xs)->H' b=some o:=λb o e h=>kp b o e (by simpa using U0 e hr1 (h _));have c1':=kc _ _ c1 (λ_ z=>nomatch z);have c2':=kc _ _ c2 (λ_ z=>nomatch z);obtain⟨q,rfl,hq⟩:=B1h hrun hm hst;obtain⟨mw,mp⟩:=hall m (Gw hm);have hsz:bs.length<=1000:=by
   have h2:=A91 _ hst;have h4:(n.post.take i).length<=n.post.length:=by rw[Iv];lia
   rw[pb.1,Gz,List.length_reverse];dsimp[Gr]at h2
   lia
  have hz:sizeLine=16777216:=rfl;have keepR: ∀(G:Hp)(d:Nh)(ys:List V){zs:List V},G r=some (.lst zs)->∃xs,upd G d (.lst ys) r=some (.lst xs):=λG d ys zs h=>by
   by_cases e:r=d
   ·subst e;exact⟨_,A3⟩
   ·exact⟨zs,by rw[A4 e];exact h⟩
  have hks:ks.length=m.kids.length:=c3.1;by_cases h0:m.kids=[]
  ·rw[h0]at hks;have hk0:ks=[]:=by simpa using hks
   subst hk0;simp[↓Ob c1',↓Tp c2',↓iL hd,↓Ls hd];rw[h0]at pb;refine⟨by lia,hN _ _ ⟨d,_,_,_,m::q,bs++[c],rfl,?_,hd0,hq,by simp,?_,keepR H' d _ hrr⟩⟩
   ·rcases hd0 with rfl|hd0
    ·exact kp.upd (.inl (by simp))
    ·exact kp.upd (.inr hd0)
   ·have pc':B0 H' c m:=.of c1' c2' (by rw[h0];exact .nil);have:=B4.append (pb.updL (o:=.lst (bs.map V.ref++[.ref c])) hd) (.cons ((pc'.updL hd)) .nil);dsimp[Iy,Ix,Gm,Ij,B2O h0];simpa using this
  ·have hk1: ¬ks=[]:=by rintro rfl;simp at hks;exact h0 (by simpa using hks.symm)
   have mm:m.made=true:=by cases m with
    |con c=>rfl
    |cnd c=>rfl
    |exp e=>cases e<;>first|rfl|(exact Gn rfl h0)
    |day d=>exact Gn rfl h0
    |unit d=>exact Gn rfl h0
   dsimp[Jv,List.reverse_reverse,Ix]at pb;obtain⟨b1,b2,rfl,p1,p2⟩:=pb.split;have hb2:b2.length=ks.length:=by rw[p2.1,Gz,hks]
   simp[↓Ob c1',↓Tp c2',↓iL hd,↓Ls hd,hk1];have e0:(b1.length:Int)+b2.length -ks.length=((b1.map V.ref).length:Int):=by rw[hb2,Gz];lia
   rw[e0,B8n];intro p hp0;simp;intro l hl0;simp;have t1:A5 H' (upd H' p (.lst (b2.map V.ref))):=A5.new hp0;have t2:A5 H' (upd (upd H' p (.lst (b2.map V.ref))) l (.tup (b2.map V.ref))):=t1.trans (A5.new hl0);have hd2:=t2 _ _ hd;rw[Ls hd2];have hcut:=C24 (b1.map V.ref) (b2.map V.ref);rw[<-Ix,Gz]at hcut;rw[hcut];intro d' hd';simp;have t3:=t2.trans (A5.new (o:=.lst (b1.map V.ref)) hd');have kpn:H1 d'=none:=by
    cases e:H1 d' with
    |none=>rfl
    |some o=>
     by_cases hdr:d'=r
     ·subst hdr;rw[t2 _ _ hrr]at hd';cases hd'
     ·have:=t2 _ _ (kp _ _ e (by simpa using hdr));rw[this]at hd';cases hd'
   have ncd:c≠d':=A2 (t2 _ _ c1') hd';rw[Ob (t3 _ _ c1'),C7L,B9X];show B1a _ _ _ _;refine⟨m,l,b2,rfl,h0,mm,mw,?_,p2.mono t3,?_,λH3 x s3 px=>?_⟩
   ·rw[A4 (A2 A3 hd'),A3]
   ·intro y hy;have:=B6x (A4q mw hy);have:=C7E this.1;have:=Nd.kid_lt hy
    lia
   ·have hd3:H3 d'=some (.lst (b1.map V.ref)):=s3 _ _ A3;simp[↓Ls hd3];refine⟨by simp at hsz;lia,hN _ _ ⟨d',_,_,_,m::q,b1++[x],rfl,?_,?_,hq,by simp,?_,keepR H3 d' _ (s3 _ _ (t3 _ _ hrr))⟩⟩
    ·exact((kp.trans (.of (t3.trans s3))).upd (.inr (kpn.trans rfl)))
    ·exact .inr kpn
    ·have:=B4.append ((p1.mono (t3.trans s3)).updL (o:=.lst (b1.map V.ref++[.ref x])) hd3) (.cons (px.updL hd3) .nil);simpa using this
 ·rintro S H' ⟨d,v2,v3,v4,st,bs,rfl,kp,hd0,hst,hd,pb,_⟩;rw[Gz,hp.1,Ho,hrun]at hst;cases hst;obtain⟨b,rfl,pb'⟩:=B4.one pb;have hd':H' d=some (.lst [.ref b]):=hd;simp[↓Ls hd'];refine k _ b (λx o e=>?_) (B0.updL hd pb');have hxd:x≠d:=by
   rcases hd0 with rfl|hd0
   ·exact A2 e hr
   ·exact A2 (s12 _ _ e) hd0
  rw[A4 hxd];exact kp _ _ (s12 _ _ e) (by simpa using A2 e hr)
noncomputable def M7(ks:List Str):Bool:=ks==[.ofString "word",.ofString "parts",.ofString "text",.ofString "value",.ofString "names",.ofString "last",.ofString "size",.ofString "plain"]||
 ks==[.ofString "number",.ofString "deal",.ofString "holder",.ofString "other",.ofString "times",.ofString "promise",.ofString "looked"]||ks==[.ofString "holder",.ofString "other",.ofString "day",.ofString "wanting",.ofString "over"]||
 ks==[.ofString "day",.ofString "deal",.ofString "giver",.ofString "taker",.ofString "unit",.ofString "amount"]||ks==[.ofString "promise",.ofString "times",.ofString "day"]
def Imm:HO->Prop
 |.tup _=>True
 |.ins _ _ fs=>M7 (fs.map (·.1))=true
 |_=>False
def B7S(a b c d e f g h:V):M7 ((G9 a b c d e f g h).map (·.1))=true:=by kernel_rfl
def B7T(a b c d e f g:V):M7 ((X9 a b c d e f g).map (·.1))=true:=by kernel_rfl
def B7U(a b c d e:V):M7 ((A1W a b c d e).map (·.1))=true:=by kernel_rfl
def B1J(a b c d e f:V):M7 ((Q4 a b c d e f).map (·.1))=true:=by kernel_rfl
def B3f(a b c:V):M7 ((A0w a b c).map (·.1))=true:=by kernel_rfl
def A8B(a b c d e f g h i:V):M7 ((E9 a b c d e f g h i).map (·.1))=false:=by kernel_rfl
def B1x(a b c:V):M7 ((S9 a b c).map (·.1))=false:=by kernel_rfl
def A22(a b c:V):M7 ((M8 a b c).map (·.1))=false:=by kernel_rfl
def O8(H H':Hp):Prop:=∀b o,H b=some o->Imm o->H' b=some o
def O8.refl(H:Hp):O8 H H:=λ_ _ e _=>e
def O8.trans{H H1 H2:Hp}(a:O8 H H1)(b:O8 H1 H2):O8 H H2:=λc o e i=>b c o (a c o e i) i
def _root_.L2.A5.ext{H H':Hp}(s:A5 H H'):O8 H H':=λb o e _=>s b o e
theorem O8.upd{H H1:Hp}{a:Nh}{o:HO}(s:O8 H H1)(h: ∀o',H1 a=some o'->¬Imm o'):O8 H (upd H1 a o):=λb u e i=>by
 have hb:=s b u e i;by_cases hba:b=a
 ·subst hba;exact Gn i (h _ hb)
 ·rw[A4 hba];exact hb
def O8.updL{H H1:Hp}{a:Nh}{o:HO}{xs:List V}(s:O8 H H1)(h:H1 a=some (.lst xs)):O8 H (L2.upd H1 a o):=s.upd λo' e=>by rw[h]at e;cases e;exact id
def O8.updI{H H1:Hp}{a C dx:Nh}{fs:List (Str×V)}{o:HO}(s:O8 H H1)(h:H1 a=some (.ins C dx fs))(m:M7 (fs.map (·.1))=false):O8 H (L2.upd H1 a o):=s.upd λo' e=>by rw[h]at e;cases e;intro q;have q:M7 (fs.map (·.1))=true:=q;rw[m]at q;cases q
def B0.ext{H H':Hp}(s:O8 H H'){a:Nh}{n:Nd}(h:B0 H a n):B0 H' a n:=by
 induction h with
 |mk h1 h2 h3 h4 ih=>exact .mk (s _ _ h1 (B7S ..)) (s _ _ h2 trivial) h3 ih
def B4.ext{H H':Hp}(s:O8 H H'){as:List Nh}{ns:List Nd}(h:B4 H as ns):B4 H' as ns:=⟨h.1,λi b m x y=>(h.2 i b m x y).ext s⟩
def C1{S:Type}(R:Nh->S->Prop)(as:List Nh)(xs:List S):Prop:=as.length=xs.length/\∀(i:Nat)(a:Nh)(x:S),as[i]?=some a->xs[i]?=some x->R a x
section
variable{S:Type}{R R':Nh->S->Prop}
def C1.imp(f: ∀a x,R a x->R' a x){as:List Nh}{xs:List S}(h:C1 R as xs):C1 R' as xs:=⟨h.1,λi a x p q=>f a x (h.2 i a x p q)⟩
def C1.nil:C1 R [] []:=⟨rfl,λi a x p _=>by simp at p⟩
def C1.cons{a:Nh}{x:S}{as:List Nh}{xs:List S}(h:R a x)(r:C1 R as xs):C1 R (a::as) (x::xs):=
 ⟨by simp[r.1],λi b y p q=>by
  cases i with
  |zero=>simp at p q;subst p q;exact h
  |succ i=>exact r.2 i b y (by simpa using p) (by simpa using q)⟩
def C1.inv{a:Nh}{x:S}{as:List Nh}{xs:List S}(h:C1 R (a::as) (x::xs)):R a x/\C1 R as xs:=
 ⟨h.2 0 a x rfl rfl,by have:=h.1;simp at this;exact this,λi b m p q=>h.2 (i+1) b m (by simpa using p) (by simpa using q)⟩
theorem C1.append: ∀{as bs:List Nh}{xs ys:List S},C1 R as xs->C1 R bs ys->C1 R (as++bs) (xs++ys)
 |[],_,[],_,_,h=>h
 |[],_,_::_,_,h,_=>by have:=h.1;simp at this
 |_::_,_,[],_,h,_=>by have:=h.1;simp at this
 |a::as,bs,n::ns,ms,h,k=>.cons h.inv.1 (C1.append h.inv.2 k)
theorem C1.split: ∀{xs ys:List S}{as:List Nh},C1 R as (xs++ys)->∃bs cs,as=bs++cs/\C1 R bs xs/\C1 R cs ys
 |[],ys,as,h=>⟨[],as,rfl,.nil,h⟩
 |n::ns,ms,a::as,h=>by obtain⟨bs,cs,rfl,h1,h2⟩:=C1.split (xs:=ns) h.inv.2;exact⟨a::bs,cs,rfl,.cons h.inv.1 h1,h2⟩
 |n::ns,ms,[],h=>by have:=h.1;simp at this
inductive AtX{J:Type}(as:List J)(i:Nat)(R:J->Prop):Prop
 |mk(a:J)(_:as[i]?=some a)(_:R a)
def C1.get{as:List Nh}{xs:List S}(h:C1 R as xs){i:Nat}{a:Nh}(e:as[i]?=some a):AtX xs i (R a):=by
 have hi:i<xs.length:=by rw[<-h.1];exact(Hl.mp e).1
 exact⟨xs[i],by simp[hi],h.2 i a _ e (by simp[hi])⟩
def C1.at{as:List Nh}{xs:List S}(h:C1 R as xs){i:Nat}{x:S}(e:xs[i]?=some x):AtX as i (R · x):=by
 have hi:i<as.length:=by rw[h.1];exact(Hl.mp e).1
 exact⟨as[i],by simp[hi],h.2 i _ x (by simp[hi]) e⟩
def C1.last{as:List Nh}{x:S}{ys:List S}(h:C1 R as (ys++[x])): ∃a bs,as=bs++[a]/\R a x/\C1 R bs ys:=by
 obtain⟨bs,cs,rfl,h1,h2⟩:=h.split
 match cs,h2 with
 |[c],h2=>exact⟨c,bs,rfl,h2.inv.1,h1⟩
 |[],h2=>have:=h2.1;simp at this
 |_::_::_,h2=>have:=h2.1;simp at this
end
structure PI where
 no:Nat
 deal:Nat
 holder:Nat
 other:Nat
 k:Int
 c:Con
 lk:Int
inductive C8(H:Hp)(a:Nh)(i:PI):Prop
 |mk(dx p:Nh)(_:H a=some (.ins ad.B6 dx (X9 (.int i.no) (.int i.deal) (.int i.holder) (.int i.other) (.int i.k) (.ref p) (.int i.lk))))(_:B0 H p (.con i.c))
def C8.ext{H H':Hp}(s:O8 H H'){a:Nh}{i:PI}(h:C8 H a i):C8 H' a i:=by obtain⟨dx,p,h1,h2⟩:=h;exact⟨dx,p,s _ _ h1 (B7T ..),h2.ext s⟩
def wV:Option Nat->V
 |none=>.non
 |some w=>.int w
inductive A1e(H:Hp)(a:Nh)(d:Kcp0.Deal):Prop
 |mk(dx:Nh)(w:V)(_:H a=some (.ins ad.G1 dx (A1W (.int d.holder) (.int d.other) (.int d.day) w (.bl d.over))))(_:d.over=false->w=wV d.wants)
def A1e.ext{H H':Hp}(s:O8 H H'){a:Nh}{i:Kcp0.Deal}(h:A1e H a i):A1e H' a i:=by obtain⟨dx,w,h1,h2⟩:=h;exact⟨dx,w,s _ _ h1 (B7U ..),h2⟩
def A7u(H:Hp)(a:Nh)(d:Kcp0.Pay):Prop:=∃dx,H a=some (.ins ad.C0 dx (Q4 (.int d.day) (.int d.deal) (.int d.from_) (.int d.to_) (.int d.unit) (.int d.much)))
def A7u.ext{H H':Hp}(s:O8 H H'){a:Nh}{i:Kcp0.Pay}(h:A7u H a i):A7u H' a i:=by obtain⟨dx,h1⟩:=h;exact⟨dx,s _ _ h1 (B1J ..)⟩
noncomputable def B7z:List V->List (Str×V)
 |[a,b,c,d,e]=>A1W a b c d e
 |_=>[]
@[simp]def A6i(a b c d e:V):B7z [a,b,c,d,e]=A1W a b c d e:=rfl
noncomputable def B7y:List V->List (Str×V)
 |[a,b,c,d,e]=>X9 (.int 0) a b c d e (.int (-1))
 |_=>[]
@[simp]def B7x(a b c d e:V):B7y [a,b,c,d,e]=X9 (.int 0) a b c d e (.int (-1)):=rfl
noncomputable def A8z:List V->List (Str×V)
 |[a,b,c,d,e,f]=>Q4 a b c d e f
 |_=>[]
@[simp]def A4N(a b c d e f:V):A8z [a,b,c,d,e,f]=Q4 a b c d e f:=rfl
def B1s:List V->List (Str×V)
 |[a,b,c]=>A0w a b c
 |_=>[]
@[simp]def C2C(a b c:V):B1s [a,b,c]=A0w a b c:=rfl
def B3A(T:Txt P w K mg):Kls P w K mg base 1 "Deal" ad.G1 ["self","holder","other","day","wanting","over"] (A8q ad.G1 5 B7z):=by
 refine T.C2R.g T (A7s) [] (λ_ _=>trivial) ?_;rintro H _ Q E ⟨x,dx,args,rfl,hl,hx,k⟩
 revert args
 refine ln5 ?_;intro a b c d e k;refine⟨rfl,?_⟩;simp+decide [A7s,↓Ob hx,D8];exact k _ (λb o e hb=>by rw[A4 hb];exact e) A3
def A67(T:Txt P w K mg):Kls P w K mg base 1 "Item" ad.B6 ["self","deal","holder","other","times","promise"] (A8q ad.B6 5 B7y):=by
 refine T.C2P.g T (A7q) [] (λ_ _=>trivial) ?_;rintro H _ Q E ⟨x,dx,args,rfl,hl,hx,k⟩
 revert args
 refine ln5 ?_;intro a b c d e k;refine⟨rfl,?_⟩;simp+decide [A7q,↓Ob hx,D8];exact k _ (λb o e hb=>by rw[A4 hb];exact e) A3
def B5M(T:Txt P w K mg):Kls P w K mg base 1 "Payment" ad.C0 ["self","day","deal","giver","taker","unit","amount"] (A8q ad.C0 6 A8z):=by
 refine T.B5m.g T (A2S) [] (λ_ _=>trivial) ?_;rintro H _ Q E ⟨x,dx,args,rfl,hl,hx,k⟩
 revert args
 refine ln6 ?_;intro a b c d e f k;refine⟨rfl,?_⟩;simp+decide [A2S,↓Ob hx,D8];exact k _ (λb o e hb=>by rw[A4 hb];exact e) A3
def B2o(T:Txt P w K mg):Kls P w K mg base 1 "Having" ad.D5 ["self","promise","times","day"] (A8q ad.D5 3 B1s):=by
 refine T.B7L.g T (A30) [] (λ_ _=>trivial) ?_;rintro H _ Q E ⟨x,dx,args,rfl,hl,hx,k⟩
 revert args
 refine ln3 ?_;intro a b c k;refine⟨rfl,?_⟩;simp+decide [A30,↓Ob hx,D8];exact k _ (λb o e hb=>by rw[A4 hb];exact e) A3
structure PS where
 n:Nat
 day:Nat
 shelf:List Con
 deals:List Kcp0.Deal
 items:List PI
 numb:Nat
 pays:List Kcp0.Pay
 sf:Nat->Bool
 wv:Nat->Int
structure SA where
 dx:Nh
 l1:Nh
 l2:Nh
 l3:Nh
 l4:Nh
 l5:Nh
noncomputable def sF(A:SA)(S:PS):List (Str×V):=E9 (.int S.n) (.int S.day) (.ref A.l1) (.ref A.l2) (.ref A.l3) (.int S.numb) (.ref A.l4) (.int (Ky S.sf)) (.ref A.l5)
inductive B5R{S:Type}(H:Hp)(l:Nh)(R:Nh->S->Prop)(xs:List S):Prop
 |mk(as:List Nh)(_:H l=some (.lst (as.map V.ref)))(_:C1 R as xs)
structure D3(H:Hp)(s:Nh)(A:SA)(S:PS):Prop where
 cell:H s=some (.ins ad.A7 A.dx (sF A S))
 shelf:B5R H A.l1 (λa c=>B0 H a (.con c)) S.shelf
 deals:B5R H A.l2 (A1e H) S.deals
 items:B5R H A.l3 (C8 H) S.items
 pays:B5R H A.l4 (A7u H) S.pays
 worths:H A.l5=some (.lst ((List.range 8).map λk=>.int (S.wv k)))
def D3.mono{H H':Hp}{s:Nh}{A:SA}{S:PS}(e:A5 H H')(h:D3 H s A S):D3 H' s A S:=by obtain⟨c,⟨a1,b1,c1⟩,⟨a2,b2,c2⟩,⟨a3,b3,c3⟩,⟨a4,b4,c4⟩,w⟩:=h;exact⟨e _ _ c,⟨a1,e _ _ b1,c1.imp λ_ _ q=>q.mono e⟩,⟨a2,e _ _ b2,c2.imp λ_ _ q=>q.ext e.ext⟩,⟨a3,e _ _ b3,c3.imp λ_ _ q=>q.ext e.ext⟩,⟨a4,e _ _ b4,c4.imp λ_ _ q=>q.ext e.ext⟩,e _ _ w⟩
section
variable(A:SA)(S:PS)(k:V->Prop)
@[simp↓]def C11:D9 (.ofString "parties") (sF A S) k=k (.int S.n):=by unfold sF;exact A4u ..
@[simp↓]def C7e:D9 (.ofString "day") (sF A S) k=k (.int S.day):=by unfold sF;exact B0c ..
@[simp↓]def C4s:D9 (.ofString "shelf") (sF A S) k=k (.ref A.l1):=by unfold sF;exact A6x ..
@[simp↓]def C4t:D9 (.ofString "deals") (sF A S) k=k (.ref A.l2):=by unfold sF;exact A6y ..
@[simp↓]def C10:D9 (.ofString "pending") (sF A S) k=k (.ref A.l3):=by unfold sF;exact A4t ..
@[simp↓]def C02:D9 (.ofString "numbered") (sF A S) k=k (.int S.numb):=by unfold sF;exact A3C ..
@[simp↓]def C01:D9 (.ofString "payments") (sF A S) k=k (.ref A.l4):=by unfold sF;exact A3B ..
@[simp↓]def C5S:D9 (.ofString "seen") (sF A S) k=k (.int (Ky S.sf)):=by unfold sF;exact A7S ..
@[simp↓]def C3C:D9 (.ofString "worths") (sF A S) k=k (.ref A.l5):=by unfold sF;exact A5D ..
end
def nmM:Con->Nat->Bool
 |.times e _,k=>Lr k e
 |.if_ b _ _,k=>Ln k b
 |.when_ _ b _,k=>Ln k b
 |_,_=>false
noncomputable def G4(S:PS)(c:Con):Bool:=decide (Ky (λk=>nmM c k&&!S.sf k)≠0)
def PI.had(i:PI)(c:Con):PI:={i with no:=0,c:=c,lk:= -1}
noncomputable def B7(S:PS)(i:PI):Option (List PI):=match i.c with
 |.nothing=>some []
 |.one _=>some []
 |.both a b=>some [i.had a,i.had b]
 |.or_ _ _=>none
 |.turn a=>some [{i.had a with holder:=i.other,other:=i.holder}]
 |.times e a=>if G4 S i.c then none else some [{i.had a with k:=i.k*Z0 S.wv e}]
 |.if_ b x y=>if G4 S i.c then none else some [i.had (if evB S.wv b then x else y)]
 |.at_ d a=>if d<S.day then some [] else if S.day=d then some [i.had a] else none
 |.when_ d b a=>if d<S.day then some [] else if i.lk<S.day/\G4 S i.c=false/\evB S.wv b=true then some [i.had a] else none
 |.any_ d _=>if d<S.day then some [] else none
noncomputable def L9(S:PS)(i:PI):List Kcp0.Pay:=match i.c with
 |.one u=>if 0<i.k then[⟨S.day,i.deal,i.other,i.holder,u,i.k.toNat⟩] else if i.k<0 then[⟨S.day,i.deal,i.holder,i.other,u,(-i.k).toNat⟩] else[]
 |_=>[]
def okC(c:Con):Prop:=E5 c=true/\(A9 c).length<=1000
inductive B9i(vs:List V)(H:Hp)(Q:VK)(E:XK):Prop
 |mk(s a:Nh)(A:SA)(S:PS)(i:PI)(_:vs=[.ref s,.ref a])(_:D3 H s A S)(_:C8 H a i)(_:Q (.bl (G4 S i.c)) H)
inductive C1N(vs:List V)(H:Hp)(Q:VK)(E:XK):Prop
 |mk(a:Nh)(c:Con)(_:vs=[.ref a])(_:B0 H a (.con c))(_:Q (.int (Ky (nmM c))) H)
inductive C4m(vs:List V)(H:Hp)(Q:VK)(E:XK):Prop
 |mk(a p:Nh)(i:PI)(c:Con)(_:vs=[.ref a,.ref p])(_:C8 H a i)(_:B0 H p (.con c))(_: ∀H' x,A5 H H'->H x=none->C8 H' x (i.had c)->Q (.ref x) H')
def A0W:T.A0T.C T base 1 (C1N):=by
 refine T.A0T.g T (N5) [] (λ_ _=>trivial) ?_;obtain⟨a,c,rfl,pa,q⟩;obtain⟨dx,l,ks,c1,c2,c3⟩:=pa.cell;have q0: ∀c,(∀k,nmM c k=false)->Q (.int (Ky (nmM c))) H->Q (.int 0) H:=λc h q=>by rw[N4.mpr λk _=>h k]at q;exact q
 cases c with
 |times e b=>obtain⟨x,y,rfl,px,py⟩:=c3.two;obtain⟨dx,l1,ks,d1,_⟩:=px.cell;simp[N5,↓Ob c1,↓Tp c2,↓Ob d1];exact q
 |if_ b x' y'=>obtain⟨x,y,z,rfl,px,py⟩:=c3.three;obtain⟨dx,l1,ks,d1,_⟩:=px.cell;simp[N5,↓Ob c1,↓Tp c2,↓Ob d1];exact q
 |when_ d b a'=>obtain⟨x,y,z,rfl,px,py,_⟩:=c3.three;obtain⟨dx,l1,ks,d1,_⟩:=py.cell;simp[N5,↓Ob c1,↓Tp c2,↓Ob d1];exact q
 |_=>simp[N5,↓Ob c1];exact q0 _ (λ_=>rfl) q
def B0s:T.B4u.C T base 2 (B9i):=by refine T.B4u.g T (B4K _) [] (by nomatch A0W T) ?_;obtain⟨s,a,A,S,i,rfl,hs,⟨dx,p,hi,pp⟩,q⟩;simp[B4K,↓Ob hi];refine⟨p,i.c,rfl,pp,?_⟩;simp[↓Ob hs.cell,A86];simpa[G4] using q
def A85:T.C1f.C T base 3 (C4m):=by refine T.C1f.g T (C1k _) [] (by nomatch A67 T) ?_;obtain⟨a,p,i,c,rfl,⟨dx,p0,hi,_⟩,pp,k⟩;simp[C1k,↓Ob hi];intro x dx hx hd _;refine C7 hx hd rfl λH' s hc=>⟨rfl,k H' x s hx ⟨dx,p,hc,pp.mono s⟩⟩
def W6(H:Hp)(o:Option (List PI))(Q:VK):Prop:=(o=none->∀H',A5 H H'->Q .non H')/\∀js,o=some js->∀H' l as,A5 H H'->H l=none->H' l=some (.lst (as.map V.ref))->C1 (C8 H') as js->Q (.ref l) H'
def W6.nil{H:Hp}{Q:VK}(h:W6 H (some []) Q): ∀p,H p=none->Q (.ref p) (upd H p (.lst [])):=λp hp=>h.2 [] rfl _ p [] (A5.new hp) hp (by simp) .nil
def W6.one{H H1:Hp}{Q:VK}{x:Nh}{j:PI}(h:W6 H (some [j]) Q)(s:A5 H H1)(hx:C8 H1 x j): ∀p,H1 p=none->Q (.ref p) (upd H1 p (.lst [.ref x])):=λp hp=>h.2 [j] rfl _ p [x] (s.trans (A5.new hp)) (s.free hp) (by simp) (.cons (hx.ext (A5.new hp).ext) .nil)
structure C3s(S:PS)(i:PI):Prop where
 c:okC i.c
 k:i.k.natAbs<=1000000000000
 wv: ∀k,(S.wv k).natAbs<=1000000
inductive C4l(vs:List V)(H:Hp)(Q:VK)(E:XK):Prop
 |mk(s a:Nh)(A:SA)(S:PS)(i:PI)(_:vs=[.ref s,.ref a])(_:D3 H s A S)(_:C8 H a i)(_:C3s S i)(_:G4 S i.c=false)(_:((∃e a,i.c=.times e a)\/∃b x y,i.c=.if_ b x y))(_:W6 H (B7 S i) Q)
def C7A{x y:Int}{m:Nat}(h1:x.natAbs<=1000000000000)(h2:y.natAbs<2^m)(hm:m<=60000000):IntMulOk x y:=by refine A8C (m:=max 41 m) (Gv (Hr h1 (show 1000000000000<2^41 by decide)) (Hu (by decide) (by lia))) (Gv h2 (Hu (by decide) (by lia))) (by lia)
def A3c:T.A0i.C T base 4 (C4l):=by
 refine T.A0i.g T (T8 _ _ _) [none,none] (by nomatch A12 T,A85 T,A67 T) ?_;obtain⟨s,a,A,S,i,rfl,hs,hi,ok,hw,hc,k⟩;have hi':=hi;obtain⟨dx,p,h1,pp⟩:=hi';obtain⟨d1,l1,ks,c1,c2,c3⟩:=pp.cell;obtain⟨okw,okp⟩:=ok.c;have hW:=hs.worths;rcases hc with⟨e,b,hc⟩|⟨b,x,y,hc⟩
 ·rw[hc]at c1 c3 okw okp;have k':=k;unfold B7 at k';rw[hw,hc]at k';dsimp[Jb,if_false]at k';obtain⟨q,r,rfl,pq,pr⟩:=c3.two;dsimp[E5,Ga]at okw;dsimp[A9,Gg,Ge,Gr]at okp;simp[T8,↓Ob h1,↓Ob c1,↓Tp c2,↓Ob hs.cell];refine⟨q,A.l5,.exp e,S.wv,rfl,pq,rfl,okw.1,by simp[Nd.post];lia,ok.wv,hW,λH1 s1=>?_⟩;simp[↓Ob (s1 _ _ h1),↓Ob (s1 _ _ c1),↓Tp (s1 _ _ c2),val];have hb:=N3 ok.wv e okw.1;have hl:=P8 e;refine⟨⟨C7A ok.k hb (by lia)⟩,λx dx hx hd _=>?_⟩;refine C7 hx hd rfl λH2 s2 hn=>?_;simp;refine⟨by decide,W6.one k' (s1.trans s2) ⟨dx,r,hn,pr.mono (s1.trans s2)⟩⟩
 ·rw[hc]at c1 c3 okw okp;have k':=k;unfold B7 at k';rw[hw,hc]at k';dsimp[Jb,if_false]at k';obtain⟨q,r,t,rfl,pq,pr,pt⟩:=c3.three;dsimp[E5,Ga]at okw;dsimp[A9,Gg,Ge,Gr]at okp;simp[T8,↓Ob h1,↓Ob c1,↓Tp c2,↓Ob hs.cell];refine⟨q,A.l5,.cnd b,S.wv,rfl,pq,rfl,okw.1.1,by simp[Nd.post];lia,ok.wv,hW,λH1 s1=>?_⟩;simp[↓Ob (s1 _ _ h1),↓Ob (s1 _ _ c1),↓Tp (s1 _ _ c2),val]
  cases hb:evB S.wv b with
  |true=>rw[hb]at k';simp;refine⟨a,r,i,x,rfl,hi.ext s1.ext,pr.mono s1,λH2 z s2 hz hi2=>?_⟩;simp;exact⟨by decide,W6.one k' (s1.trans s2) hi2⟩
  |false=>rw[hb]at k';simp;refine⟨a,t,i,y,rfl,hi.ext s1.ext,pt.mono s1,λH2 z s2 hz hi2=>?_⟩;simp;exact⟨by decide,W6.one k' (s1.trans s2) hi2⟩
inductive C4n(vs:List V)(H:Hp)(Q:VK)(E:XK):Prop
 |mk(s a:Nh)(A:SA)(S:PS)(i:PI)(_:vs=[.ref s,.ref a])(_:D3 H s A S)(_:C8 H a i)(_:C3s S i)(_:((∃d a,i.c=.at_ d a)\/(∃d b a,i.c=.when_ d b a)\/∃d a,i.c=.any_ d a))(_:W6 H (B7 S i) Q)
def A5H:T.A1i.C T base 4 (C4n):=by
 refine T.A1i.g T (T1 _ _ _) [none,none,none] (by nomatch A12 T,A85 T,B0s T) ?_;obtain⟨s,a,A,S,i,rfl,hs,hi,ok,hc,k⟩;have hi':=hi;obtain⟨dx,p,h1,pp⟩:=hi';obtain⟨d1,l1,ks,c1,c2,c3⟩:=pp.cell;obtain⟨okw,okp⟩:=ok.c;have hW:=hs.worths;have k':=k;unfold B7 at k';rcases hc with⟨d,b,hc⟩|⟨d,c,b,hc⟩|⟨d,b,hc⟩
 ·rw[hc]at c1 c3 k';obtain⟨q,r,rfl,pq,pr⟩:=c3.two;obtain⟨d2,l2,k2,e1,_⟩:=pq.cell;simp[T1,↓Ob h1,↓Ob c1,↓Tp c2,↓Ob hs.cell,↓Ob e1];dsimp[Nd.val,Int.ofNat_lt,Int.natCast_inj]at k' ⊢;split
  ·rename_i h;rw[Gf h]at k';exact k'.nil
  ·rename_i h;rw[Gd h]at k';split
   ·rename_i h2;rw[Gf h2]at k';refine⟨a,r,i,b,rfl,hi,pr,λH2 z s2 hz hi2=>?_⟩;simp;exact⟨by decide,W6.one k' s2 hi2⟩
   ·rename_i h2;rw[Gd h2]at k';exact k'.1 rfl H (A5.refl H)
 ·rw[hc]at c1 c3 k' okw okp;obtain⟨q,r,t,rfl,pq,pr,pt⟩:=c3.three;obtain⟨d2,l2,k2,e1,_⟩:=pq.cell;dsimp[E5,Ga]at okw;dsimp[A9,Gg,Ge,Gr]at okp;simp[T1,↓Ob h1,↓Ob c1,↓Tp c2,↓Ob hs.cell,↓Ob e1];dsimp[Nd.val,Int.ofNat_lt]at k' ⊢;split
  ·rename_i h;rw[Gf h]at k';exact k'.nil
  ·rename_i h;rw[Gd h]at k';split
   ·rename_i h2;refine⟨s,a,A,S,i,rfl,hs,hi,?_⟩;rw[<-hc]at k'
    cases hw:G4 S i.c with
    |true=>rw[Gd (by simp[hw])]at k';simp;exact k'.1 rfl H (A5.refl H)
    |false=>
     simp[↓Tp c2,↓Ob hs.cell];refine⟨r,A.l5,.cnd c,S.wv,rfl,pr,rfl,okw.1.2,by simp[Nd.post];lia,ok.wv,hW,λH1 s1=>?_⟩
     cases hb:evB S.wv c with
     |true=>rw[Gf ⟨h2,hw,hb⟩]at k';simp[val,hb,↓Tp (s1 _ _ c2)];refine⟨a,t,i,b,rfl,hi.ext s1.ext,pt.mono s1,λH2 z s2 hz hi2=>?_⟩;simp;exact⟨by decide,W6.one k' (s1.trans s2) hi2⟩
     |false=>rw[Gd (by simp[hb])]at k';simp[val,hb];exact k'.1 rfl H1 s1
   ·rename_i h2;rw[Gd (λz=>h2 z.1)]at k';exact k'.1 rfl H (A5.refl H)
 ·rw[hc]at c1 c3 k';obtain⟨q,r,rfl,pq,pr⟩:=c3.two;obtain⟨d2,l2,k2,e1,_⟩:=pq.cell;simp[T1,↓Ob h1,↓Ob c1,↓Tp c2,↓Ob hs.cell,↓Ob e1];dsimp[Nd.val,Int.ofNat_lt]at k' ⊢;split
  ·rename_i h;rw[Gf h]at k';exact k'.nil
  ·rename_i h;rw[Gd h]at k';exact k'.1 rfl H (A5.refl H)
def SA.dis(A:SA):Prop:=[A.l1,A.l2,A.l3,A.l4,A.l5].Nodup
def _root_.L2.Kp.ext{X:List Nh}{H H':Hp}(k:Kp X H H')(h: ∀a∈X,∀o,H a=some o->¬Imm o):O8 H H':=λb o e i=>k b o e λhb=>h b hb o e i
def D3.set{H H':Hp}{s:Nh}{A:SA}{S:PS}(h:D3 H s A S)(d:A.dis)(k:Kp [A.l4] H H'){bs:List Nh}{ps:List Kcp0.Pay}(h4:H' A.l4=some (.lst (bs.map V.ref)))(hp:C1 (A7u H') bs ps):D3 H' s A {S with pays:=ps}:=by
 obtain⟨c,⟨a1,b1,c1⟩,⟨a2,b2,c2⟩,⟨a3,b3,c3⟩,⟨a4,b4,c4⟩,w⟩:=h;have e:O8 H H':=k.ext λa ha o ho=>by
  have:a=A.l4:=by simpa using ha
  subst this;rw[b4]at ho;cases ho;exact id
 unfold SA.dis at d;simp at d;obtain⟨⟨d12,d13,d14,d15⟩,⟨d23,d24,d25⟩,⟨d34,d35⟩,d45⟩:=d;have n: ∀{a:Nh}{o:HO},H a=some o->a≠A.l4->H' a=some o:=λe1 e2=>k _ _ e1 (by simpa using e2);exact⟨n c (U0 c b4 (by intro z;cases z)),⟨a1,n b1 d14,c1.imp λ_ _ q=>q.ext e⟩,⟨a2,n b2 d24,c2.imp λ_ _ q=>q.ext e⟩,⟨a3,n b3 d34,c3.imp λ_ _ q=>q.ext e⟩,⟨bs,h4,hp⟩,n w λz=>d45 z.symm⟩
inductive C1V(vs:List V)(H:Hp)(Q:VK)(E:XK):Prop
 |mk(s a:Nh)(A:SA)(S:PS)(i:PI)(u:Nat)(_:vs=[.ref s,.ref a])(_:D3 H s A S)(_:A.dis)(_:C8 H a i)(_:i.c=.one u)(_:S.pays.length<=100000)(_: ∀H',Kp [A.l4] H H'->D3 H' s A {S with pays:=S.pays++L9 S i}->Q .non H')
inductive B9r(vs:List V)(H:Hp)(Q:VK)(E:XK):Prop
 |mk(s a:Nh)(A:SA)(S:PS)(i:PI)(_:vs=[.ref s,.ref a])(_:D3 H s A S)(_:A.dis)(_:C8 H a i)(_:C3s S i)(_:S.pays.length<=100000)(_:(B7 S i=none->∀H',A5 H H'->Q .non H'))(_: ∀js,B7 S i=some js->∀H' l as,Kp [A.l4] H H'->D3 H' s A {S with pays:=S.pays++L9 S i}->H l=none->H' l=some (.lst (as.map V.ref))->C1 (C8 H') as js->Q (.ref l) H')
def B0.updX{H:Hp}{x:Nh}{o:HO}{a:Nh}{n:Nd}(h:B0 H a n)(h1: ∀C dx n l,H x≠some (.ins C dx (pF n l)))(h2: ∀xs,H x≠some (.tup xs)):B0 (upd H x o) a n:=by
 induction h with
 |mk g1 g2 g3 g4 ih=>exact .mk (by rw[A4 (λe=>h1 _ _ _ _ (e▸g1))];exact g1) (by rw[A4 (λe=>h2 _ (e▸g2))];exact g2) g3 ih
def A0A:Con->Bool
 |.when_ _ _ _=>true
 |_=>false
noncomputable def F5(S:PS)(i:PI)(no:Nat):PI:={i.had i.c with no:=no,lk:=if A0A i.c&&!G4 S i.c then(S.day:Int) else -1}
inductive C1P(vs:List V)(H:Hp)(Q:VK)(E:XK):Prop
 |mk(s a:Nh)(A:SA)(S:PS)(i:PI)(no:Nat)(_:vs=[.ref s,.ref a,.int no])(_:D3 H s A S)(_:C8 H a i)(_: ∀H' x,A5 H H'->H x=none->C8 H' x (F5 S i no)->Q (.ref x) H')
def C3c:T.B8e.C T base 3 (C1V):=by
 refine T.B8e.g T (B8C _) [none] (by nomatch B5M T) ?_;obtain⟨s,a,A,S,i,u,rfl,hs,hd,⟨dx,p,h1,pp⟩,hc,hl,k⟩;obtain⟨d1,l1,ks,c1,c2,c3⟩:=pp.cell;rw[hc]at c1 c3;obtain⟨q,rfl,pq⟩:=c3.one;obtain⟨d2,l2,k2,e1,_⟩:=pq.cell;obtain⟨ps,hp4,ap⟩:=hs.pays;have hlen:=ap.1;have hz:sizeLine=16777216:=rfl;unfold L9 at k;rw[hc]at k;simp only at k;simp[B8C,↓Ob h1,↓Ob c1,↓Tp c2,↓Ob hs.cell,↓Ob e1,↓iL hp4];by_cases h0:0<i.k
 ·rw[Gf h0]at k;rw[Gf h0];intro x dx hx hd' _;refine C7 hx hd' rfl λH1 s1 hn=>?_;simp[↓Ls (s1 _ _ hp4)];have nxl:A.l4≠x:=A2 hp4 hx;have nal:a≠A.l4:=U0 h1 hp4 (by intro z;cases z);refine⟨by lia,?_⟩;simp[↓N0 nal,↓Ob (s1 _ _ h1)];rw[Gd (by lia)];refine k _ (Kp.upd (.of s1) (.inl (by simp))) ?_;refine D3.set (bs:=ps++[x]) hs hd (Kp.upd (.of s1) (.inl (by simp))) (by rw[A3];simp) ?_;have ex:=(s1.ext).updL (o:=.lst (ps.map V.ref++[.ref x])) (s1 _ _ hp4);refine(ap.imp λ_ _ q=>q.ext ex).append (.cons ⟨dx,?_⟩ .nil);rw[A4 nxl.symm,hn];have:(i.k.toNat:Int)=i.k:=by lia
  simp[A4N,this,Nd.val]
 ·rw[Gd h0]at k;rw[Gd h0];by_cases h2:i.k<0
  ·rw[Gf h2]at k;rw[Gf h2];intro x dx hx hd' _;refine C7 hx hd' rfl λH1 s1 hn=>?_;simp[↓Ls (s1 _ _ hp4)];have nxl:A.l4≠x:=A2 hp4 hx;refine⟨by lia,?_⟩;refine k _ (Kp.upd (.of s1) (.inl (by simp))) ?_;refine D3.set (bs:=ps++[x]) hs hd (Kp.upd (.of s1) (.inl (by simp))) (by rw[A3];simp) ?_;have ex:=(s1.ext).updL (o:=.lst (ps.map V.ref++[.ref x])) (s1 _ _ hp4);refine(ap.imp λ_ _ q=>q.ext ex).append (.cons ⟨dx,?_⟩ .nil);rw[A4 nxl.symm,hn];have:((-i.k).toNat:Int)= -i.k:=by lia
   simp[A4N,this,Nd.val]
  ·rw[Gd h2]at k;rw[Gd h2];refine k H (Kp.refl _ _) ?_;rw[Hw];exact hs
def C3b:T.B8c.C T base 4 (C1P):=by
 refine T.B8c.g T (B8B _ _) [none] (by nomatch A85 T,B0s T) ?_;obtain⟨s,a,A,S,i,no,rfl,hs,hi,k⟩;have hi':=hi;obtain⟨dx,p,h1,pp⟩:=hi';simp[B8B,↓Ob h1];refine⟨a,p,i,i.c,rfl,hi,pp,λH1 x s1 hx hx1=>?_⟩;obtain⟨dy,p2,g1,g2⟩:=hx1;obtain⟨d1,l1,ks,c1,_⟩:=pp.cell;have nax:a≠x:=A2 h1 hx;have npx:p≠x:=A2 c1 hx;have nsx:s≠x:=A2 hs.cell hx;simp[↓Ob g1,↓N0 nax,↓Ob (s1 _ _ h1),↓N0 npx,↓Ob (s1 _ _ c1)];have npx2: ∀o,B0 (upd H1 x o) p2 (.con i.c):=λo=>g2.updX (λC dx n l e=>by rw[g1]at e;injection e with e;injection e with _ _ e;simp[X9,pF,G9]at e) λxs e=>by rw[g1]at e;cases e
 have hw:((Nd.con i.c).wd="when")↔A0A i.c=true:=by cases i.c<;>simp[A0A]
 by_cases hW:A0A i.c=true
 ·rw[Gf (hw.mpr hW)];have sx:=λo=>s1.over (o:=o) hx;refine⟨s,a,A,S,i,rfl,hs.mono (sx _),hi.ext (sx _).ext,?_⟩
  cases hq:G4 S i.c with
  |true=>simp;refine k _ x (sx _) hx ⟨dy,p2,A3.trans ?_,npx2 _⟩;simp[F5,PI.had,hW,hq]
  |false=>simp[↓N0 nsx,↓Ob (s1 _ _ hs.cell)];refine k _ x (sx _) hx ⟨dy,p2,A3.trans ?_,npx2 _⟩;simp[F5,PI.had,hW,hq]
 ·rw[Gd (λz=>hW (hw.mp z))];refine k _ x (s1.over hx) hx ⟨dy,p2,A3.trans ?_,npx2 _⟩;simp[F5,PI.had,hW]
def B0r:T.A3D.C T base 5 (B9r):=by
 refine T.A3D.g T (F0 _ _ _ _ _ _) [none,none] (by nomatch A5H T,C3c T,A85 T,A67 T,B0s T,A3c T) ?_;obtain⟨s,a,A,S,i,rfl,hs,hd,hi,ok,hl,kn,ks⟩;have hi':=hi;obtain⟨dx,p,h1,pp⟩:=hi';obtain⟨d1,l1,as,c1,c2,c3⟩:=pp.cell;have CQ:L9 S i=[]->W6 H (B7 S i) Q:=λe=>⟨kn,λjs ej H' l bs s1 hl h2 h3=>ks js ej H' l bs (.of s1) (by rw[e,Hw];exact hs.mono s1) hl h2 h3⟩
 cases hc:i.c with
 |nothing=>rw[hc]at c1;have q:=CQ (by simp[L9,hc]);dsimp[B7,hc]at q;simp[F0,↓Ob h1,↓Ob c1];exact q.nil
 |one u=>
  rw[hc]at c1;simp[F0,↓Ob h1,↓Ob c1];refine⟨s,a,A,S,i,u,rfl,hs,hd,hi,hc,hl,λH1 k1 hs1=>?_⟩;simp;intro l hl1;have hl0:H l=none:=by
   cases e:H l with
   |none=>rfl
   |some o=>
    by_cases hll:l=A.l4
    ·subst hll;obtain⟨_,h4,_⟩:=hs1.pays;rw[h4]at hl1;cases hl1
    ·rw[k1 _ _ e (by simpa using hll)]at hl1;cases hl1
  exact ks [] (by simp[B7,hc]) _ l [] (k1.trans (.of (A5.new hl1))) (hs1.mono (A5.new hl1)) hl0 (by simp) .nil
 |both b c=>rw[hc]at c1 c3;have q:=CQ (by simp[L9,hc]);dsimp[B7,hc]at q;obtain⟨x,y,rfl,px,py⟩:=c3.two;simp[F0,↓Ob h1,↓Ob c1,↓Tp c2];refine⟨a,x,i,b,rfl,hi,px,λH1 u s1 hu hu1=>?_⟩;simp[↓Tp (s1 _ _ c2)];refine⟨a,y,i,c,rfl,hi.ext s1.ext,py.mono s1,λH2 v s2 hv hv1=>?_⟩;simp;refine⟨by decide,λl hl2=>?_⟩;exact q.2 _ rfl _ l [u,v] ((s1.trans s2).trans (A5.new hl2)) ((s1.trans s2).free hl2) (by simp) (.cons (hu1.ext (s2.trans (A5.new hl2)).ext) (.cons (hv1.ext (A5.new hl2).ext) .nil))
 |or_ b c=>rw[hc]at c1;simp[F0,↓Ob h1,↓Ob c1];exact kn (by simp[B7,hc]) H (A5.refl H)
 |turn b=>rw[hc]at c1 c3;have q:=CQ (by simp[L9,hc]);dsimp[B7,hc]at q;obtain⟨x,rfl,px⟩:=c3.one;simp[F0,↓Ob h1,↓Ob c1,↓Tp c2];intro y dy hy hdy _;refine C7 hy hdy rfl λH1 s1 hn=>?_;simp;exact⟨by decide,W6.one q s1 ⟨dy,x,hn,px.mono s1⟩⟩
 |times e b=>
  have c1':=c1;rw[hc]at c1';have q:=CQ (by simp[L9,hc]);simp[F0,↓Ob h1,↓Ob c1'];refine⟨s,a,A,S,i,rfl,hs,hi,?_⟩
  cases hw:G4 S i.c with
  |true=>simp;exact q.1 (by simp[B7,hc];rw[hc]at hw;exact hw) H (A5.refl H)
  |false=>simp;exact⟨s,a,A,S,i,rfl,hs,hi,ok,hw,.inl ⟨e,b,hc⟩,q⟩
 |if_ e b c=>
  have c1':=c1;rw[hc]at c1';have q:=CQ (by simp[L9,hc]);simp[F0,↓Ob h1,↓Ob c1'];refine⟨s,a,A,S,i,rfl,hs,hi,?_⟩
  cases hw:G4 S i.c with
  |true=>simp;exact q.1 (by simp[B7,hc];rw[hc]at hw;exact hw) H (A5.refl H)
  |false=>simp;exact⟨s,a,A,S,i,rfl,hs,hi,ok,hw,.inr ⟨e,b,c,hc⟩,q⟩
 |at_ d b=>have c1':=c1;rw[hc]at c1';have q:=CQ (by simp[L9,hc]);simp[F0,↓Ob h1,↓Ob c1'];exact⟨s,a,A,S,i,rfl,hs,hi,ok,.inl ⟨d,b,hc⟩,q⟩
 |when_ d b c=>have c1':=c1;rw[hc]at c1';have q:=CQ (by simp[L9,hc]);simp[F0,↓Ob h1,↓Ob c1'];exact⟨s,a,A,S,i,rfl,hs,hi,ok,.inr (.inl ⟨d,b,c,hc⟩),q⟩
 |any_ d b=>have c1':=c1;rw[hc]at c1';have q:=CQ (by simp[L9,hc]);simp[F0,↓Ob h1,↓Ob c1'];exact⟨s,a,A,S,i,rfl,hs,hi,ok,.inr (.inr ⟨d,b,hc⟩),q⟩
def F1(q:List PI):Nat:=(q.map λi=>Ku i.c).sum
noncomputable def wkP:Nat->PS->List PI->List PI->List PI->Option PS
 |_,S,[],st,co=>some {S with items:=S.items++st++co}
 |0,_,_::_,_,_=>none
 |f+1,S,i::q,st,co=>if 1000000000000<i.k.natAbs then none else match B7 S i with
  |some js=>wkP f {S with pays:=S.pays++L9 S i} (js++q) st co
  |none=>if 0<i.no then wkP f S q (st++[F5 S i i.no]) co else wkP f {S with numb:=S.numb+1} q st (co++[F5 S i (S.numb+1)])
def P6(c:Con):1<=Ku c:=by cases c<;>simp[Ku]<;>lia
def A1X{S:PS}{i:PI}{js:List PI}(h:okC i.c)(e:B7 S i=some js):(∀j∈js,okC j.c)/\F1 js<Ku i.c:=by
 obtain⟨h1,h2⟩:=h;unfold B7 at e
 cases hc:i.c with
 |nothing=>rw[hc]at e;simp at e;subst e;simp[F1,Ku]
 |one u=>rw[hc]at e;simp at e;subst e;simp[F1,Ku]
 |both a b=>
  rw[hc]at e h1 h2;simp at e;subst e;simp[E5,A9]at h1 h2;simp[F1,Ku,PI.had,okC,h1]
  lia
 |or_ a b=>rw[hc]at e;simp at e
 |turn a=>
  rw[hc]at e h1 h2;simp at e;subst e;simp[E5,A9]at h1 h2;simp[F1,Ku,PI.had,okC,h1]
  lia
 |times x a=>
  rw[hc]at e h1 h2;simp at e;obtain⟨_,e⟩:=e;subst e;simp[E5,A9]at h1 h2;simp[F1,Ku,PI.had,okC,h1]
  lia
 |if_ b x y=>rw[hc]at e h1 h2;simp at e;obtain⟨_,e⟩:=e;subst e;simp[E5,A9]at h1 h2;simp[F1,Ku,PI.had,okC];split<;>simp[h1]<;>lia
 |at_ d a=>
  rw[hc]at e h1 h2;simp at e;simp[E5,A9]at h1 h2;split at e
  ·simp at e;subst e;simp[F1,Ku];lia
  ·split at e
   ·simp at e;subst e;simp[F1,Ku,PI.had,okC,h1];lia
   ·cases e
 |when_ d b a=>
  rw[hc]at e h1 h2;simp at e;simp[E5,A9]at h1 h2;split at e
  ·simp at e;subst e;simp[F1,Ku];lia
  ·split at e
   ·simp at e;subst e;simp[F1,Ku,PI.had,okC,h1];lia
   ·cases e
 |any_ d a=>rw[hc]at e h1 h2;simp at e;simp[E5,A9]at h1 h2;obtain⟨_,e⟩:=e;subst e;simp[F1,Ku];lia
def B9W(S:PS)(i:PI):(L9 S i).length<=1:=by
 unfold L9;split
 ·split
  ·simp
  ·split<;>simp
 ·simp
def J4(i:PI)(q:List PI):F1 (i::q)=Ku i.c+F1 q:=by simp[F1]
def Q9(p q:List PI):F1 (p++q)=F1 p+F1 q:=by simp[F1]
def B3T(q:List PI):q.length<=F1 q:=by
 induction q with
 |nil=>simp[F1]
 |cons i q ih=>rw[J4];have:=P6 i.c;simp;lia
theorem A2f: ∀(f g:Nat)(S:PS)(q st co:List PI),(∀i∈q,okC i.c)->F1 q<=f->F1 q<=g->wkP f S q st co=wkP g S q st co
 |f,g,S,[],st,co,_,_,_=>by cases f<;>cases g<;>rfl
 |0,g,S,i::q,st,co,_,h,_=>by rw[J4]at h;have:=P6 i.c;lia
 |f+1,0,S,i::q,st,co,_,_,h=>by rw[J4]at h;have:=P6 i.c;lia
 |f+1,g+1,S,i::q,st,co,ho,h1,h2=>by
  rw[J4]at h1 h2;have hp:=P6 i.c;unfold wkP;split
  ·rfl
  ·have hq: ∀j∈q,okC j.c:=λj hj=>ho j (Gh _ hj)
   cases e:B7 S i with
   |some js=>obtain⟨o1,o2⟩:=A1X (ho i (by simp)) e;exact A2f f g _ _ _ _ (λj hj=>(Gp.mp hj).elim (o1 j) (hq j)) (by rw[Q9];lia) (by rw[Q9];lia)
   |none=>
    simp only;split
    ·exact A2f f g _ _ _ _ hq (by lia) (by lia)
    ·exact A2f f g _ _ _ _ hq (by lia) (by lia)
def SA.all(A:SA)(s:Nh):List Nh:=[s,A.l1,A.l2,A.l3,A.l4,A.l5]
def D3.keep{H H':Hp}{s:Nh}{A:SA}{S:PS}{X:List Nh}(h:D3 H s A S)(k:Kp X H H')(e:O8 H H')(hx: ∀a∈A.all s,a∉X):D3 H' s A S:=by obtain⟨c,⟨a1,b1,c1⟩,⟨a2,b2,c2⟩,⟨a3,b3,c3⟩,⟨a4,b4,c4⟩,w⟩:=h;have n: ∀a∈A.all s,∀o,H a=some o->H' a=some o:=λa ha o ho=>k _ _ ho (hx a ha);exact⟨n _ (by simp[SA.all]) _ c,⟨a1,n _ (by simp[SA.all]) _ b1,c1.imp λ_ _ q=>q.ext e⟩,⟨a2,n _ (by simp[SA.all]) _ b2,c2.imp λ_ _ q=>q.ext e⟩,⟨a3,n _ (by simp[SA.all]) _ b3,c3.imp λ_ _ q=>q.ext e⟩,⟨a4,n _ (by simp[SA.all]) _ b4,c4.imp λ_ _ q=>q.ext e⟩,n _ (by simp[SA.all]) _ w⟩
def D3.lists{H:Hp}{s:Nh}{A:SA}{S:PS}(h:D3 H s A S): ∀a∈A.all s,∃o,H a=some o/\¬Imm o:=by
 obtain⟨c,⟨a1,b1,c1⟩,⟨a2,b2,c2⟩,⟨a3,b3,c3⟩,⟨a4,b4,c4⟩,w⟩:=h;intro a ha;simp[SA.all]at ha;rcases ha with rfl|rfl|rfl|rfl|rfl|rfl
 ·exact⟨_,c,λq=>by have q:M7 ((sF A S).map (·.1))=true:=q;unfold sF at q;rw[A8B]at q;cases q⟩
 ·exact⟨_,b1,id⟩
 ·exact⟨_,b2,id⟩
 ·exact⟨_,b3,id⟩
 ·exact⟨_,b4,id⟩
 ·exact⟨_,w,id⟩
def D3.ne_l{H:Hp}{s:Nh}{A:SA}{S:PS}(h:D3 H s A S):s≠A.l1/\s≠A.l2/\s≠A.l3/\s≠A.l4/\s≠A.l5:=by obtain⟨c,⟨a1,b1,c1⟩,⟨a2,b2,c2⟩,⟨a3,b3,c3⟩,⟨a4,b4,c4⟩,w⟩:=h;exact⟨U0 c b1 (by intro z;cases z),U0 c b2 (by intro z;cases z),U0 c b3 (by intro z;cases z),U0 c b4 (by intro z;cases z),U0 c w (by intro z;cases z)⟩
def A6a(A:SA)(S:PS):M7 ((sF A S).map (·.1))=false:=A8B ..
def D3.cellset{H:Hp}{s:Nh}{A:SA}{S:PS}(h:D3 H s A S)(S':PS)(e1:S'.shelf=S.shelf)(e2:S'.deals=S.deals)(e3:S'.items=S.items)(e4:S'.pays=S.pays)(e5:S'.wv=S.wv):D3 (upd H s (.ins ad.A7 A.dx (sF A S'))) s A S':=by have e:O8 H (upd H s (.ins ad.A7 A.dx (sF A S'))):=(O8.refl H).updI h.cell (A6a A S);obtain⟨n1,n2,n3,n4,n5⟩:=h.ne_l;obtain⟨c,⟨a1,b1,c1⟩,⟨a2,b2,c2⟩,⟨a3,b3,c3⟩,⟨a4,b4,c4⟩,w⟩:=h;exact⟨A3,⟨a1,by rw[A4 n1.symm];exact b1,by rw[e1];exact c1.imp λ_ _ q=>q.ext e⟩,⟨a2,by rw[A4 n2.symm];exact b2,by rw[e2];exact c2.imp λ_ _ q=>q.ext e⟩,⟨a3,by rw[A4 n3.symm];exact b3,by rw[e3];exact c3.imp λ_ _ q=>q.ext e⟩,⟨a4,by rw[A4 n4.symm];exact b4,by rw[e4];exact c4.imp λ_ _ q=>q.ext e⟩,by rw[A4 n5.symm,w,e5]⟩
def _root_.L2.Kp.back{X:List Nh}{H H':Hp}(k:Kp X H H')(hx: ∀x∈X,H' x≠none){p:Nh}(h:H' p=none):H p=none:=by
 cases e:H p with
 |none=>rfl
 |some o=>
  by_cases hp:p∈X
  ·exact Gn h (hx p hp)
  ·rw[k _ _ e hp]at h;cases h
inductive B6G(vs:List V)(H:Hp)(Q:VK)(E:XK):Prop
 |mk(s l:Nh)(A:SA)(S:PS)(as:List Nh)(q:List PI)(_:vs=[.ref s,.ref l])(_:D3 H s A S)(_:A.dis)(_:H l=some (.lst (as.map V.ref)))(_:C1 (C8 H) as q)(_:(∀i∈q,okC i.c))(_:(∀k,(S.wv k).natAbs<=1000000))(_:S.pays.length+F1 q<=100000)(_:S.items.length<=100000)(_:(wkP (F1 q) S q [] []=none->∀H',Kp [s,A.l4] H H'->Q (.bl false) H'))(_: ∀S',wkP (F1 q) S q [] []=some S'->∀H' l3,Kp [s,A.l4] H H'->H l3=none->D3 H' s {A with l3:=l3} S'->Q (.bl (decide (S'.items.length<=48)&&decide (S'.pays.length<=400))) H')
inductive WkI(s l t st co:Nh)(A:SA)(S:PS)(q:List PI)(H:Hp)(m:Nat)(J:L2.St)(H':Hp):Prop
 |mk(v5 v6:Option V)(Sc:PS)(q' stay come:List PI)(qa sa ca:List Nh)(_:J=[some (.ref s),some (.ref l),some (.ref t),some (.ref st),some (.ref co),v5,v6])(_:Kp [s,A.l4] H H')(_:D3 H' s A Sc)
  (_:H' t=some (.lst (qa.reverse.map V.ref))) (_:H' st=some (.lst (sa.map V.ref))) (_:H' co=some (.lst (ca.map V.ref))) (_:C1 (C8 H') qa q') (_:C1 (C8 H') sa stay) (_:C1 (C8 H') ca come)
  (_: ∀i∈q',okC i.c) (_:Sc.wv=S.wv) (_:Sc.items=S.items) (_:wkP (F1 q') Sc q' stay come=wkP (F1 q) S q [] []) (_:Sc.pays.length+F1 q'<=100000) (_:stay.length+come.length+F1 q'<=100000) (_:m=F1 q'):WkI s l t st co A S q H m J H'
def A3b:T.A6A.C T base 6 (B6G):=by
 refine T.A6A.g T (A7b _ _) [none,none,none,none,none] (by nomatch B0r T,C3b T) ?_;obtain⟨s,l,A,S,as,q,rfl,hs,hd,hl,hq,hok,hwv,hpz,hiz,kn,ks⟩;have hz:sizeLine=16777216:=rfl;simp[A7b,↓Ls hl];intro t ht;simp;intro st hst;simp;intro co hco;simp;have e1:A5 H (upd H t (.lst (as.map V.ref).reverse)):=A5.new ht;have ht0:H st=none:=e1.free hst;have e2:=e1.trans (A5.new (o:=.lst []) hst);have hc0:H co=none:=e2.free hco;have e3:=e2.trans (A5.new (o:=.lst []) hco);have nts:t≠st:=A2 A3 hst;have nsc:st≠co:=A2 A3 hco;have ntc:t≠co:=A2 (show upd (upd H t (.lst (as.map V.ref).reverse)) st (.lst []) t=_ by rw[A4 nts,A3]) hco
 refine A9C (WkI s l t st co A S q H)
  (F1 q) ⟨none,none,S,q,[],[],as,[],[],rfl,.of e3,hs.mono e3,?_,?_,A3,hq.imp λ_ _ z=>z.ext e3.ext,.nil,.nil,hok,rfl,rfl,rfl,hpz,?_,rfl⟩ ?_
 ·rw[A4 ntc,A4 nts,A3,List.map_reverse]
 ·rw[A4 nsc,A3];rfl
 ·simp;lia
 ·rintro m J H' ⟨v5,v6,Sc,q',stay,come,qa,sa,ca,rfl,kp,hs',h1,h2,h3,a1,a2,a3,ok',ewv,eit,ew,hb1,hb2,rfl⟩
  cases q' with
  |nil=>
   have hqa:qa=[]:=by have:=a1.1;simpa using this
   subst hqa;refine⟨false,λQ q=>by simpa[↓Ls h1] using q,.inr ⟨rfl,?_⟩⟩;obtain⟨ia,hi3,ai⟩:=hs'.items;obtain⟨pa,hp4,ap⟩:=hs'.pays;have l1:=ai.1;have l2:=a2.1;have l3:=a3.1;rw[eit]at l1;simp[↓Ob hs'.cell,↓Ls hi3,↓Ls h2];refine⟨by lia,λp hp=>?_⟩;have f1:=A5.new (o:=.lst (ia.map V.ref++sa.map V.ref)) hp;simp[↓Ls (f1 _ _ h3)];refine⟨by lia,λp2 hp2=>?_⟩;have f2:=f1.trans (A5.new (o:=.lst (ia.map V.ref++(sa.map V.ref++ca.map V.ref))) hp2);have nps:p2≠s:=λe=>by subst e;rw[f1 _ _ hs'.cell]at hp2;cases hp2
   have n4s:A.l4≠s:=U0 hp4 hs'.cell (by intro z;cases z);simp[↓Ob (f2 _ _ hs'.cell),sF,↓Lsn nps,↓Lsn n4s,↓Ls (f2 _ _ hp4)];have bk: ∀x∈[s,A.l4],H' x≠none:=λx hx=>by
    simp at hx;rcases hx with rfl|rfl
    ·rw[hs'.cell];simp
    ·rw[hp4];simp
   have hp0:=kp.back bk hp;have hp20:=kp.back bk (f1.free hp2);have G:=(f2.ext).updI (o:=.ins ad.A7 A.dx (sF {A with l3:=p2} {Sc with items:=Sc.items++stay++come})) (f2 _ _ hs'.cell) (A6a A Sc);have KP:Kp [s,A.l4] H (upd (upd (upd H' p (.lst (ia.map V.ref++sa.map V.ref))) p2 (.lst (ia.map V.ref++(sa.map V.ref++ca.map V.ref)))) s (.ins ad.A7 A.dx (sF {A with l3:=p2} {Sc with items:=Sc.items++stay++come}))):=((kp.upd (.inr hp0)).upd (.inr hp20)).upd (.inl (by simp));have ew':wkP (F1 q) S q [] []=some {Sc with items:=Sc.items++stay++come}:=by rw[<-ew];rfl
   have ST:D3 (upd (upd (upd H' p (.lst (ia.map V.ref++sa.map V.ref))) p2 (.lst (ia.map V.ref++(sa.map V.ref++ca.map V.ref)))) s (.ins ad.A7 A.dx (sF {A with l3:=p2} {Sc with items:=Sc.items++stay++come}))) s {A with l3:=p2} {Sc with items:=Sc.items++stay++come}:=by obtain⟨n1,n2,n3,n4,n5⟩:=hs'.ne_l;obtain⟨a1',b1',c1'⟩:=hs'.shelf;obtain⟨a2',b2',c2'⟩:=hs'.deals;refine⟨A3,⟨a1',by rw[A4 n1.symm];exact f2 _ _ b1',c1'.imp λ_ _ q=>q.ext G⟩,⟨a2',by rw[A4 n2.symm];exact f2 _ _ b2',c2'.imp λ_ _ q=>q.ext G⟩,⟨ia++sa++ca,?_,((ai.append a2).append a3).imp λ_ _ q=>q.ext G⟩,⟨pa,by rw[A4 n4.symm];exact f2 _ _ hp4,ap.imp λ_ _ q=>q.ext G⟩,by rw[A4 n5.symm];exact f2 _ _ hs'.worths⟩;show upd _ s _ p2=_;rw[A4 nps,A3];simp
   have P3:=ks _ ew' _ p2 KP hp20 ST;have hlp:=ap.1;have hit:(Sc.items++stay++come).length=ia.length+(sa.length+ca.length):=by simp[ai.1,l2,l3]
   dsimp[hit,<-hlp]at P3;split
   ·rename_i hle;rw[show decide (ia.length+(sa.length+ca.length)<=48)=true from Hv (by lia),Kd]at P3;rw[show decide ((pa.length:Int)<=400)=decide (pa.length<=400) by simp;lia];exact P3
   ·rename_i hle;rw[show decide (ia.length+(sa.length+ca.length)<=48)=false from Hk (by lia),Bool.false_and]at P3;exact P3
  |cons i q'=>
   match qa,a1 with
   |[],a1=>have:=a1.1;simp at this
   |a::qa,a1=>
    obtain⟨hi,a1⟩:=a1.inv;refine⟨true,λQ q=>by simpa[↓Ls h1] using q,.inl ⟨rfl,λN hN=>?_⟩⟩;have h1':H' t=some (.lst (qa.reverse.map V.ref++[.ref a])):=by rw[h1];simp
    obtain⟨dx,p,g1,g2⟩:=hi;have nat_:a≠t:=U0 g1 h1 (by intro z;cases z);simp[↓Ls h1',↓N0 nat_,↓Ob g1];have hi:C8 H' a i:=⟨dx,p,g1,g2⟩
    have hoki:=ok' i (by simp);have hokq: ∀j∈q',okC j.c:=λj hj=>ok' j (Gh _ hj);have hsp:=P6 i.c;rw[J4]at ew hb1 hb2;have hne: ∀x,H x=none->∀b∈A.all s,b≠x:=λx hx b hb e=>by obtain⟨o,ho,_⟩:=hs.lists b hb;rw[e,hx]at ho;cases ho
    have x0:O8 H' (upd H' t (.lst (qa.reverse.map V.ref))):=(O8.refl H').updL h1;have s0:D3 (upd H' t (.lst (qa.reverse.map V.ref))) s A Sc:=hs'.keep (X:=[t]) (Kp.upd (Kp.refl _ _) (.inl (by simp))) x0 λb hb=>by simpa using hne t ht b hb
    have k0:Kp [s,A.l4] H (upd H' t (.lst (qa.reverse.map V.ref))):=kp.upd (.inr ht);dsimp[<-List.map_reverse];have hfu:F1 q'<=Ku i.c+F1 q' -1:=by lia
    have unf:wkP (Ku i.c+F1 q') Sc (i::q') stay come=if 1000000000000<i.k.natAbs then none else match B7 Sc i with
      |some js=>wkP (Ku i.c+F1 q' -1) {Sc with pays:=Sc.pays++L9 Sc i} (js++q') stay come
      |none=>if 0<i.no then wkP (Ku i.c+F1 q' -1) Sc q' (stay++[F5 Sc i i.no]) come else wkP (Ku i.c+F1 q' -1) {Sc with numb:=Sc.numb+1} q' stay (come++[F5 Sc i (Sc.numb+1)]):=by
     obtain⟨f,hf⟩: ∃f,Ku i.c+F1 q'=f+1:=⟨Ku i.c+F1 q' -1,by lia⟩
     rw[hf];rfl
    rw[unf]at ew;by_cases hbig:1000000000000<i.k.natAbs
    ·rw[Gf hbig]at ew;rw[Gf (by split<;>lia)];exact kn ew.symm _ k0
    ·rw[Gd hbig]at ew;rw[Gd (by split<;>lia)];refine⟨s,a,A,Sc,i,rfl,s0,hd,hi.ext x0,⟨hoki,by lia,by rw[ewv];exact hwv⟩,by lia,λhcn H1 e1=>?_,λjs hcs H1 l bs k1 hs1 hl0 hl1 aj=>?_⟩
     ·--it stays
      rw[hcn]at ew;simp only at ew;have gs:=hi.ext (x0.trans e1.ext);obtain⟨dx',p',g1',g2'⟩:=gs;simp[↓Ob g1'];have hst1:H1 st=some (.lst (sa.map V.ref)):=e1 _ _ (by rw[A4 nts.symm];exact h2);have hco1:H1 co=some (.lst (ca.map V.ref)):=e1 _ _ (by rw[A4 ntc.symm];exact h3);have ht1:H1 t=some (.lst (qa.reverse.map V.ref)):=e1 _ _ A3;have xx:=x0.trans e1.ext;have k1:Kp [s,A.l4] H H1:=k0.trans (.of e1);by_cases hno:0<i.no
      ·rw[Gf (by lia)];rw[Gf hno]at ew;refine⟨by rw[iL hst1];trivial,s,a,A,Sc,i,i.no,rfl,s0.mono e1,hi.ext xx,λH2 x e2 hx hx2=>?_⟩;simp[↓Ls (e2 _ _ hst1)];have l2:=a2.1;have xF:O8 H' (upd H2 st (.lst (sa.map V.ref++[.ref x]))):=(xx.trans e2.ext).updL (e2 _ _ hst1);refine⟨by lia,hN (F1 q') _ _ (by rw[J4];lia) ⟨_,_,Sc,q',stay++[F5 Sc i i.no],come,qa,sa++[x],ca,rfl,(k1.trans (.of e2)).upd (.inr ht0),?_,?_,?_,?_,a1.imp λ_ _ z=>z.ext xF,?_,a3.imp λ_ _ z=>z.ext xF,hokq,ewv,eit,?_,by lia,by simp;lia,rfl⟩⟩
       ·exact((s0.mono e1).mono e2).keep (X:=[st]) (Kp.upd (Kp.refl _ _) (.inl (by simp))) ((O8.refl H2).updL (e2 _ _ hst1)) λb hb=>by simpa using hne st ht0 b hb
       ·rw[A4 nts];exact e2 _ _ ht1
       ·rw[A3];simp
       ·rw[A4 nsc.symm];exact e2 _ _ hco1
       ·exact(a2.imp λ_ _ z=>z.ext xF).append (.cons (hx2.ext ((O8.refl H2).updL (e2 _ _ hst1))) .nil)
       ·rw[<-ew];exact A2f _ _ _ _ _ _ hokq (Gi _) hfu
      ·rw[Gd (by lia)];rw[Gd hno]at ew;have s1:=s0.mono e1;have hsc:(upd H1 s (.ins ad.A7 A.dx (sF A {Sc with numb:=Sc.numb+1})))=upd H1 s (.ins ad.A7 A.dx (D8 ("numbered":Str) (.int (Sc.numb+1)) (sF A Sc))):=by unfold sF;rw[A3v];rfl
       have s2:D3 (upd H1 s (.ins ad.A7 A.dx (D8 ("numbered":Str) (.int (Sc.numb+1)) (sF A Sc)))) s A {Sc with numb:=Sc.numb+1}:=by rw[<-hsc];exact s1.cellset _ rfl rfl rfl rfl rfl
       have x1:O8 H1 (upd H1 s (.ins ad.A7 A.dx (D8 ("numbered":Str) (.int (Sc.numb+1)) (sF A Sc)))):=(O8.refl H1).updI s1.cell (A6a A Sc);have ncs:co≠s:=(hne co hc0 s (by simp[SA.all])).symm;have nss:st≠s:=(hne st ht0 s (by simp[SA.all])).symm;have nts':t≠s:=(hne t ht s (by simp[SA.all])).symm;have hlF:(sF A Sc).length=9:=rfl;simp[↓Ob s1.cell,↓iLn ncs,↓iL hco1,↓Ob s2.cell,hlF];refine⟨s,a,A,{Sc with numb:=Sc.numb+1},i,Sc.numb+1,by simp,s2,hi.ext (xx.trans x1),λH2 x e2 hx hx2=>?_⟩;have hco2:H2 co=some (.lst (ca.map V.ref)):=e2 _ _ (by rw[A4 ncs];exact hco1);simp[↓Ls hco2];have l3:=a3.1;have xF:O8 H' (upd H2 co (.lst (ca.map V.ref++[.ref x]))):=((xx.trans x1).trans e2.ext).updL hco2;have keq:F5 {Sc with numb:=Sc.numb+1} i (Sc.numb+1)=F5 Sc i (Sc.numb+1):=rfl;refine⟨by lia,hN (F1 q') _ _ (by rw[J4];lia) ⟨_,_,{Sc with numb:=Sc.numb+1},q',stay,come++[F5 Sc i (Sc.numb+1)],qa,sa,ca++[x],rfl,(((k1.upd (.inl (by simp))).trans (.of e2)).upd (.inr hc0)),?_,?_,?_,?_,a1.imp λ_ _ z=>z.ext xF,a2.imp λ_ _ z=>z.ext xF,?_,hokq,ewv,eit,?_,by show Sc.pays.length+_<=_;lia,by simp;lia,rfl⟩⟩
       ·exact(s2.mono e2).keep (X:=[co]) (Kp.upd (Kp.refl _ _) (.inl (by simp))) ((O8.refl H2).updL hco2) λb hb=>by simpa using hne co hc0 b hb
       ·rw[A4 ntc];exact e2 _ _ (by rw[A4 nts'];exact ht1)
       ·rw[A4 nsc];exact e2 _ _ (by rw[A4 nss];exact hst1)
       ·rw[A3];simp
       ·exact(a3.imp λ_ _ z=>z.ext xF).append (.cons (by rw[<-keq];exact hx2.ext ((O8.refl H2).updL hco2)) .nil)
       ·rw[<-ew];exact A2f _ _ _ _ _ _ hokq (Gi _) hfu
     ·--something comes
      rw[hcs]at ew;simp only at ew;obtain⟨o1,o2⟩:=A1X hoki hcs;obtain⟨pa,hp4,ap⟩:=s0.pays;have n4t:=hne t ht A.l4 (by simp[SA.all]);have n4st:=hne st ht0 A.l4 (by simp[SA.all]);have n4co:=hne co hc0 A.l4 (by simp[SA.all]);have hst1:H1 st=some (.lst (sa.map V.ref)):=k1 _ _ (by rw[A4 nts.symm];exact h2) (by simpa using n4st.symm);have hco1:H1 co=some (.lst (ca.map V.ref)):=k1 _ _ (by rw[A4 ntc.symm];exact h3) (by simpa using n4co.symm);have ht1:H1 t=some (.lst (qa.reverse.map V.ref)):=k1 _ _ A3 (by simpa using n4t.symm);have x1:O8 (upd H' t (.lst (qa.reverse.map V.ref))) H1:=k1.ext λz hz o ho=>by
       have:z=A.l4:=by simpa using hz
       subst this;rw[hp4]at ho;cases ho;exact id
      simp[↓iL ht1,↓Ls hl1];intro r hr;have ntr:t≠r:=A2 ht1 hr;have e2:A5 H1 (upd H1 r (.lst (bs.map V.ref).reverse)):=A5.new hr;simp[↓Ls (e2 _ _ ht1),↓Lsn ntr];have lb:=aj.1;have lq:=a1.1;have hsq:=B3T q';have hsj:=B3T js;refine⟨by lia,?_⟩;have xF:O8 H' (upd (upd H1 r (.lst (bs.map V.ref).reverse)) t (.lst ((qa.map V.ref).reverse++(bs.map V.ref).reverse))):=((x0.trans x1).trans e2.ext).updL (e2 _ _ ht1);have xJ:O8 H1 (upd (upd H1 r (.lst (bs.map V.ref).reverse)) t (.lst ((qa.map V.ref).reverse++(bs.map V.ref).reverse))):=e2.ext.updL (e2 _ _ ht1);have K1:Kp [s,A.l4] H H1:=k0.trans (Kp.mono k1 λz hz=>.inl (by simp at hz ⊢;exact .inr hz));have hrH:H r=none:=K1.back (λx hx=>by
       simp at hx;rcases hx with rfl|rfl
       ·rw[hs1.cell];simp
       ·obtain⟨_,h4,_⟩:=hs1.pays;rw[h4];simp) hr
      have hpl:=B9W Sc i;refine hN (F1 (js++q')) _ _ (by rw[J4,Q9];lia) ⟨_,_,{Sc with pays:=Sc.pays++L9 Sc i},js++q',stay,come,bs++qa,sa,ca,rfl,(K1.upd (.inr hrH)).upd (.inr ht),?_,?_,?_,?_,(aj.imp λ_ _ z=>z.ext xJ).append (a1.imp λ_ _ z=>z.ext xF),a2.imp λ_ _ z=>z.ext xF,a3.imp λ_ _ z=>z.ext xF,?_,ewv,eit,?_,?_,?_,rfl⟩
      ·exact(hs1.mono e2).keep (X:=[t]) (Kp.upd (Kp.refl _ _) (.inl (by simp))) ((O8.refl _).updL (e2 _ _ ht1)) λb hb=>by simpa using hne t ht b hb
      ·rw[A3];simp
      ·rw[A4 nts.symm];exact e2 _ _ hst1
      ·rw[A4 ntc.symm];exact e2 _ _ hco1
      ·exact λj hj=>(Gp.mp hj).elim (o1 j) (hokq j)
      ·rw[<-ew];exact A2f _ _ _ _ _ _ (λj hj=>(Gp.mp hj).elim (o1 j) (hokq j)) (Gi _) (by rw[Q9];lia)
      ·rw[Q9];simp;lia
      ·rw[Q9];lia
def F2{H:Hp}{a b:Nh}{o:HO}:upd H a o b=none↔b≠a/\H b=none:=by unfold L2.upd;split<;>simp_all
noncomputable def P0(n:Nat):PS:=⟨n,0,[],[],[],0,[],λ_=>false,λ_=>0⟩
def SA.fresh(A:SA)(H:Hp):Prop:=∀l∈[A.l1,A.l2,A.l3,A.l4,A.l5],H l=none
inductive B2U(vs:List V)(H:Hp)(Q:VK)(E:XK):Prop
 |mk(x dx:Nh)(n:Nat)(_:vs=[.ref x,.int n])(_:H x=some (.ins ad.A7 dx []))(_: ∀H' A,A.dx=dx->A.dis->A.fresh H->(∀b o,H b=some o->b≠x->H' b=some o)->D3 H' x A (P0 n)->Q .non H')
inductive A8p(vs:List V)(H:Hp)(Q:VK)(E:XK):Prop
 |mk(s:Nh)(A:SA)(S:PS)(_:vs=[.ref s])(_:D3 H s A S)(_:A.dis)(_:(∀i∈S.items,okC i.c))(_:(∀k,(S.wv k).natAbs<=1000000))(_:S.pays.length+F1 S.items<=100000)(_:(wkP (F1 S.items) {S with items:=[]} S.items [] []=none->∀H',Kp [s,A.l4] H H'->Q (.bl false) H'))(_: ∀S',wkP (F1 S.items) {S with items:=[]} S.items [] []=some S'->∀H' l3,Kp [s,A.l4] H H'->H l3=none->D3 H' s {A with l3:=l3} S'->Q (.bl (decide (S'.items.length<=48)&&decide (S'.pays.length<=400))) H')
def SA.dis3{A:SA}{H:Hp}{s:Nh}{S:PS}(h:D3 H s A S)(d:A.dis){p:Nh}(hp:H p=none):SA.dis {A with l3:=p}:=by
 have n: ∀b∈A.all s,b≠p:=λb hb e=>by obtain⟨o,ho,_⟩:=h.lists b hb;rw[e,hp]at ho;cases ho
 have n1:=n A.l1 (by simp[SA.all]);have n2:=n A.l2 (by simp[SA.all]);have n4:=n A.l4 (by simp[SA.all]);have n5:=n A.l5 (by simp[SA.all]);unfold SA.dis at d ⊢;simp at d ⊢;obtain⟨⟨d12,d13,d14,d15⟩,⟨d23,d24,d25⟩,⟨d34,d35⟩,d45⟩:=d;exact⟨⟨d12,n1,d14,d15⟩,⟨n2,d24,d25⟩,⟨n4.symm,n5.symm⟩,d45⟩
def B0C(T:Txt P w K mg):Kls P w K mg base 1 "State" ad.A7 ["self","parties"] (B2U):=by
 refine T.C0i.g (N:=["self","parties","name"]) T (A5s) [none] (λ_ _=>trivial) ?_;obtain⟨x,dx,n,rfl,hx,k⟩;simp[A5s,↓Ob hx,D8];intro p1 g1;have n1:x≠p1:=A2 A3 g1;simp[↓N0 n1,D8];intro p2 g2;have n2:x≠p2:=A2 A3 g2;simp[↓N0 n2,D8];intro p3 g3;have n3:x≠p3:=A2 A3 g3;simp[↓N0 n3,D8];intro p4 g4;have n4:x≠p4:=A2 A3 g4;simp[↓N0 n4,D8];refine A0S (A3o λH' s=>T.B9B.sq H') (λ_=>some (.int 0)) (by decide) (λy hy H' s Y N q=>by simpa using q) λp5 g5=>?_;have n5:x≠p5:=A2 A3 g5;simp[↓N0 n5,D8];dsimp[F2]at g1 g2 g3 g4 g5;obtain⟨a1,b1⟩:=g1;obtain⟨a2,⟨c21,a2',b2⟩⟩:=g2;obtain⟨a3,⟨c32,_,c31,_,b3⟩⟩:=g3;obtain⟨a4,⟨c43,_,c42,_,c41,_,b4⟩⟩:=g4;obtain⟨a5,⟨c54,_,c53,_,c52,_,c51,_,b5⟩⟩:=g5;refine k _ ⟨dx,p1,p2,p3,p4,p5⟩ rfl ?_ ?_ ?_ ?_
 ·unfold SA.dis;simp;exact⟨⟨c21.symm,c31.symm,c41.symm,c51.symm⟩,⟨c32.symm,c42.symm,c52.symm⟩,⟨c43.symm,c53.symm⟩,c54.symm⟩
 ·unfold SA.fresh;simp;exact⟨b1,b2,b3,b4,b5⟩
 ·intro b o e hb;have q: ∀p,H p=none->b≠p:=λp hp=>A2 e hp;simp[upd,hb,q p1 b1,q p2 b2,q p3 b3,q p4 b4,q p5 b5,e]
 ·refine⟨?_,⟨[],?_,.nil⟩,⟨[],?_,.nil⟩,⟨[],?_,.nil⟩,⟨[],?_,.nil⟩,?_⟩
  ·rw[A3];have z:Ky (λ_=>false)=0:=N4.mpr λ_ _=>rfl;simp[sF,E9,P0,z]
  ·simp[upd,a1,c21.symm,c31.symm,c41.symm,c51.symm]
  ·simp[upd,a2,c32.symm,c42.symm,c52.symm]
  ·simp[upd,a3,c43.symm,c53.symm]
  ·simp[upd,a4,c54.symm]
  ·simp[upd,a5,P0];decide
def A0l:T.A1Q.C T base 7 (A8p):=by
 refine T.A1Q.g T (A15 _) [none] (by nomatch A3b T) ?_;obtain⟨s,A,S,rfl,hs,hd,hok,hwv,hpz,kn,ks⟩;simp[A15,↓Ob hs.cell];intro p hp;have e1:=A5.new (o:=.lst []) hp;have nps:s≠p:=A2 hs.cell hp;have hlF:(sF A S).length=9:=rfl;simp[↓Ob (e1 _ _ hs.cell),hlF];have hcell:D8 ("pending":Str) (.ref p) (sF A S)=sF {A with l3:=p} {S with items:=[]}:=by unfold sF;rw[A0P]
 rw[hcell];obtain⟨ia,hi3,ai⟩:=hs.items;have x1:O8 H (upd (upd H p (.lst [])) s (.ins ad.A7 A.dx (sF {A with l3:=p} {S with items:=[]}))):=e1.ext.updI (e1 _ _ hs.cell) (A6a A S);have K1:Kp [s,A.l4] H (upd (upd H p (.lst [])) s (.ins ad.A7 A.dx (sF {A with l3:=p} {S with items:=[]}))):=Kp.upd (.of e1) (.inl (by simp));obtain⟨n1,n2,n3,n4,n5⟩:=hs.ne_l;have s1:D3 (upd (upd H p (.lst [])) s (.ins ad.A7 A.dx (sF {A with l3:=p} {S with items:=[]}))) s {A with l3:=p} {S with items:=[]}:=by obtain⟨c,⟨a1,b1,c1⟩,⟨a2,b2,c2⟩,_,⟨a4,b4,c4⟩,w⟩:=hs;exact⟨A3,⟨a1,by rw[A4 n1.symm];exact e1 _ _ b1,c1.imp λ_ _ q=>q.ext x1⟩,⟨a2,by rw[A4 n2.symm];exact e1 _ _ b2,c2.imp λ_ _ q=>q.ext x1⟩,⟨[],by rw[A4 nps.symm,A3];rfl,.nil⟩,⟨a4,by rw[A4 n4.symm];exact e1 _ _ b4,c4.imp λ_ _ q=>q.ext x1⟩,by rw[A4 n5.symm];exact e1 _ _ w⟩
 refine⟨s,A.l3,{A with l3:=p},{S with items:=[]},ia,S.items,rfl,s1,SA.dis3 hs hd hp,by rw[A4 n3.symm];exact e1 _ _ hi3,ai.imp λ_ _ q=>q.ext x1,hok,hwv,hpz,by simp,λh H' k'=>kn h H' (K1.trans k'),λS' h H' l3 k' hl3 st=>ks S' h H' l3 (K1.trans k') ?_ st⟩;by_cases hls:l3=s
 ·subst hls;rw[A3]at hl3;cases hl3
 ·rw[A4 hls]at hl3;exact e1.free hl3
inductive C1S(vs:List V)(H:Hp)(Q:VK)(E:XK):Prop
 |mk(s:Nh)(A:SA)(S:PS)(_:vs=[.ref s])(_:D3 H s A S)(_: ∀H' s' A',A5 H H'->H s'=none->A'.fresh H->A'.dis->D3 H' s' A' S->Q (.ref s') H')
def W4:T.A8Y.C T base 3 (C1S):=by
 refine T.A8Y.g T (A9o _) [none] (by nomatch B0C T) ?_;obtain⟨s,A,S,rfl,hs,k⟩;obtain⟨la,ha1,c1⟩:=hs.shelf;obtain⟨lb,hb1,c2⟩:=hs.deals;obtain⟨lc,hc1,c3⟩:=hs.items;obtain⟨ld,hd1,c4⟩:=hs.pays;simp[A9o,↓Ob hs.cell];intro x dx hx hd _;refine⟨x,dx,S.n,rfl,A3,λH1 A1 e1 d1 f1 k1 s1=>?_⟩;have S1:A5 H H1:=A0g hx hd k1;have nsx:s≠x:=A2 hs.cell hx;have cs:=S1 _ _ hs.cell;have nl: ∀{l:Nh}{o:HO},H l=some o->l≠x:=λh=>A2 h hx;simp[↓Ob s1.cell,↓Ob cs,↓N0 nsx,sF,↓Lsn (nl ha1),↓Ls (S1 _ _ ha1)];intro p1 g1;have n1:x≠p1:=A2 A3 g1;have m1:s≠p1:=by rintro rfl;rw[A4 nsx,cs]at g1;cases g1
 have q1: ∀{l:Nh}{o:HO},H l=some o->l≠p1:=λ{l o} h=>by rintro rfl;rw[A4 (nl h),S1 _ _ h]at g1;cases g1
 simp[↓N0 n1,↓N0 m1,↓N0 nsx,↓Ob cs,sF,↓Lsn (nl hb1),↓Lsn (q1 hb1),↓Ls (S1 _ _ hb1)];intro p2 g2;have n2:x≠p2:=A2 A3 g2;have q2: ∀{l:Nh}{o:HO},H l=some o->l≠p2:=λ{l o} h=>by rintro rfl;dsimp[F2]at g2;rw[S1 _ _ h]at g2;exact Gn g2.2.2.2 (by simp)
 simp[↓N0 n2,↓N0 n1,↓N0 m1,↓N0 (q2 hs.cell),↓N0 nsx,↓Ob cs,sF,↓Lsn (nl hc1),↓Lsn (q1 hc1),↓Lsn (q2 hc1),↓Ls (S1 _ _ hc1)];intro p3 g3;have n3:x≠p3:=A2 A3 g3;have q3: ∀{l:Nh}{o:HO},H l=some o->l≠p3:=λ{l o} h=>by rintro rfl;dsimp[F2]at g3;rw[S1 _ _ h]at g3;exact Gn g3.2.2.2.2.2 (by simp)
 simp[↓N0 n3,↓N0 (q3 hs.cell),↓N0 n2,↓N0 n1,↓N0 m1,↓N0 (q2 hs.cell),↓N0 nsx,↓Ob cs,sF,↓Lsn (nl hd1),↓Lsn (q1 hd1),↓Lsn (q2 hd1),↓Lsn (q3 hd1),↓Ls (S1 _ _ hd1)];intro p4 g4;have n4:x≠p4:=A2 A3 g4;have q4: ∀{l:Nh}{o:HO},H l=some o->l≠p4:=λ{l o} h=>by rintro rfl;dsimp[F2]at g4;rw[S1 _ _ h]at g4;exact Gn g4.2.2.2.2.2.2.2 (by simp)
 simp[↓N0 n4,↓N0 (q4 hs.cell),↓N0 n3,↓N0 (q3 hs.cell),↓N0 n2,↓N0 n1,↓N0 m1,↓N0 (q2 hs.cell),↓N0 nsx,↓Ob cs,sF,↓Lsn (nl hs.worths),↓Lsn (q1 hs.worths),↓Lsn (q2 hs.worths),↓Lsn (q3 hs.worths),↓Lsn (q4 hs.worths),↓Ls (S1 _ _ hs.worths)];intro p5 g5;have n5:x≠p5:=A2 A3 g5;simp[↓N0 n5];dsimp[F2]at g1 g2 g3 g4 g5;obtain⟨a1,b1⟩:=g1;obtain⟨a2,c21,_,b2⟩:=g2;obtain⟨a3,c32,_,c31,_,b3⟩:=g3;obtain⟨a4,c43,_,c42,_,c41,_,b4⟩:=g4;obtain⟨a5,c54,_,c53,_,c52,_,c51,_,b5⟩:=g5;have hf: ∀{p:Nh},H1 p=none->H p=none:=λh=>S1.free h;refine k _ x ⟨A1.dx,p1,p2,p3,p4,p5⟩ ?_ hx ?_ ?_ ?_
 ·intro b o e;have q: ∀{p},H p=none->b≠p:=λhp=>A2 e hp;simp[upd,q hx,q (hf b1),q (hf b2),q (hf b3),q (hf b4),q (hf b5),S1 _ _ e]
 ·unfold SA.fresh;simp;exact⟨hf b1,hf b2,hf b3,hf b4,hf b5⟩
 ·unfold SA.dis;simp;exact⟨⟨c21.symm,c31.symm,c41.symm,c51.symm⟩,⟨c32.symm,c42.symm,c52.symm⟩,⟨c43.symm,c53.symm⟩,c54.symm⟩
 ·have SS: ∀H9,A5 H H9->H9 x=some (.ins ad.A7 A1.dx (sF ⟨A1.dx,p1,p2,p3,p4,p5⟩ S))->H9 p1=some (.lst (la.map V.ref))->H9 p2=some (.lst (lb.map V.ref))->H9 p3=some (.lst (lc.map V.ref))->H9 p4=some (.lst (ld.map V.ref))->H9 p5=some (.lst ((List.range 8).map λk=>.int (S.wv k)))->D3 H9 x ⟨A1.dx,p1,p2,p3,p4,p5⟩ S:=
   λH9 e h0 h1 h2 h3 h4 h5=>⟨h0,⟨la,h1,c1.imp λ_ _ q=>q.mono e⟩,⟨lb,h2,c2.imp λ_ _ q=>q.ext e.ext⟩,⟨lc,h3,c3.imp λ_ _ q=>q.ext e.ext⟩,⟨ld,h4,c4.imp λ_ _ q=>q.ext e.ext⟩,h5⟩
  refine SS _ ?_ ?_ ?_ ?_ ?_ ?_ ?_
  ·intro b o e;have q: ∀{p},H p=none->b≠p:=λhp=>A2 e hp;simp[upd,q hx,q (hf b1),q (hf b2),q (hf b3),q (hf b4),q (hf b5),S1 _ _ e]
  ·rw[A3];simp[sF,P0]
  ·simp[upd,a1,c21.symm,c31.symm,c41.symm,c51.symm]
  ·simp[upd,a2,c32.symm,c42.symm,c52.symm]
  ·simp[upd,a3,c43.symm,c53.symm]
  ·simp[upd,a4,c54.symm]
  ·simp[upd,a5]
def G8(day:Nat)(p:PI):Kcp0.Item:=⟨p.no,p.deal,p.holder,p.other,p.k,p.c,decide (p.lk=day)⟩
def B1f(S:PS):List (Option Int):=(List.range 8).map λk=>if S.sf k then some (S.wv k) else none
noncomputable def B2(S:PS):Kcp0.Core:=⟨S.n,S.day,B1f S,S.shelf,S.deals,S.items.map (G8 S.day),S.numb+1,S.pays⟩
def okS(c:Con):Prop:=E5 c=true/\(A9 c).length<=600
theorem okS.okC{c:Con}(h:okS c):okC c:=⟨h.1,by have:=h.2;lia⟩
structure OkI(S:PS)(i:PI):Prop where
 c:okS i.c
 k:i.k.natAbs<=1000000000000
 no:1<=i.no/\i.no<=S.numb
 lk:i.lk<=S.day
 lw:i.lk=S.day->(∃d b a,i.c=.when_ d b a)/\G4 S i.c=false
structure OkS(S:PS):Prop where
 n:S.n<=6
 shelf:S.shelf.length<=16
 shC: ∀c∈S.shelf,okS c
 deals:S.deals.length<=16
 items:S.items.length<=48
 itI: ∀i∈S.items,OkI S i
 srt:S.items.Pairwise λa b=>a.no<b.no
 pays:S.pays.length<=400
 pyU: ∀p∈S.pays,p.unit<4
 wv: ∀k,(S.wv k).natAbs<=1000000
structure PD where
 now:PS
 bef:List PS
 und:List PS
structure OkD(D:PD):Prop where
 now:OkS D.now
 bef: ∀S∈D.bef,OkS S
 und: ∀S∈D.und,OkS S
 few:D.bef.length+D.und.length<=32
def B5(D:PD):Kcp0.Abs:=⟨B2 D.now,D.bef.reverse.map B2,D.und.reverse.map B2⟩
noncomputable def goD(D:PD)(S:PS):PD:=⟨S,if D.bef.length=32 then(D.bef++[D.now]).drop 1 else D.bef++[D.now],[]⟩
def B8L(D:PD)(S:PS)(h:D.bef.length<=32)(v:Int):Mg (B5 D) (B2 S) v=(B5 (goD D S),.num v):=by
 unfold Mg B5 goD Kcp0.BACK;dsimp[Kf,Ij];congr 2;split
 ·rename_i e;have:(D.bef++[D.now]).drop 1=((D.bef++[D.now]).reverse.take 32).reverse:=by rw[List.take_reverse];simp[e]
  rw[this];simp[List.map_take]
 ·rename_i e;rw[Jm (by simp;lia)];simp
def OkD.go{D:PD}{S:PS}(h:OkD D)(hs:OkS S):OkD (goD D S):=by
 have hf:=h.few;refine⟨hs,?_,λ_ h=>by simp[goD]at h,?_⟩
 ·intro T hT;have hT:T∈D.bef++[D.now]:=by
   unfold goD at hT;simp only at hT;split at hT
   ·exact List.mem_of_mem_drop hT
   ·exact hT
  rcases Gp.mp hT with h1|h1
  ·exact h.bef T h1
  ·rw[Gq.mp h1];exact h.now
 ·unfold goD;dsimp[Gr];split
  ·simp;lia
  ·simp;lia
def StX(H:Hp)(a:Nh)(S:PS):Prop:=∃A,D3 H a A S
def StX.mono{H H':Hp}{a:Nh}{S:PS}(s:A5 H H')(h:StX H a S):StX H' a S:=h.imp λ_ q=>q.mono s
inductive C8H(H:Hp)(d dx b u:Nh)(D:PD):Prop
 |mk(s:Nh)(A:SA)(_:H d=some (.ins ad.B9 dx (S9 (.ref s) (.ref b) (.ref u))))(_:D3 (wo [d,b,u] H) s A D.now)
structure G6(H:Hp)(d dx b u:Nh)(D:PD):Prop where
 now:C8H H d dx b u D
 bef:B5R H b (StX (wo [d,b,u] H)) D.bef
 und:B5R H u (StX (wo [d,b,u] H)) D.und
 ne:b≠u
def A5M{X Y:List Nh}{H H':Hp}(s:Kp X H H')(h: ∀a∈Y,a∈X\/H a=none):A5 (wo X H) (wo Y H'):=λb o e=>by
 obtain⟨e1,e2⟩:=A8y e;refine A0J (s b o e1 e2) λhb=>?_;rcases h b hb with h|h
 ·exact e2 h
 ·rw[h]at e1;cases e1
def G6.mono{H H':Hp}{d dx b u:Nh}{D:PD}(s:A5 H H')(h:G6 H d dx b u D):G6 H' d dx b u D:=by obtain⟨⟨x,A,h1,h2⟩,⟨as,h3,h4⟩,⟨bs,h5,h6⟩,ne⟩:=h;have w:A5 (wo [d,b,u] H) (wo [d,b,u] H'):=A5M (.of s) λa ha=>.inl ha;exact⟨⟨x,A,s _ _ h1,h2.mono w⟩,⟨as,s _ _ h3,h4.imp λ_ _ q=>q.mono w⟩,⟨bs,s _ _ h5,h6.imp λ_ _ q=>q.mono w⟩,ne⟩
def G6.ext{H:Hp}{d dx b u:Nh}{D:PD}(h:G6 H d dx b u D):O8 H (wo [d,b,u] H):=λa o e i=>A0J e λha=>by
 obtain⟨⟨x,A,h1,h2⟩,⟨as,h3,h4⟩,⟨bs,h5,h6⟩,ne⟩:=h;simp at ha;rcases ha with rfl|rfl|rfl
 ·rw[h1]at e;cases e;have i:M7 ((S9 (.ref x) (.ref b) (.ref u)).map (·.1))=true:=i;rw[B1x]at i;cases i
 ·rw[h3]at e;cases e;exact i
 ·rw[h5]at e;cases e;exact i
def G6.ne_d{H:Hp}{d dx b u:Nh}{D:PD}(h:G6 H d dx b u D):d≠b/\d≠u:=by obtain⟨⟨x,A,h1,h2⟩,⟨as,h3,h4⟩,⟨bs,h5,h6⟩,ne⟩:=h;exact⟨U0 h1 h3 (by intro z;cases z),U0 h1 h5 (by intro z;cases z)⟩
def G6.ex{H:Hp}{d dx b u:Nh}{D:PD}(h:G6 H d dx b u D): ∀a∈[d,b,u],H a≠none:=by
 obtain⟨⟨x,A,h1,h2⟩,⟨as,h3,h4⟩,⟨bs,h5,h6⟩,ne⟩:=h;intro a ha e;simp at ha;rcases ha with rfl|rfl|rfl
 ·rw[h1]at e;cases e
 ·rw[h3]at e;cases e
 ·rw[h5]at e;cases e
def D3.beside{H H':Hp}{d dx b u s:Nh}{D:PD}{A:SA}{S:PS}(h:G6 H d dx b u D)(e:A5 H H')(hs:H s=none)(ha:A.fresh H)(st:D3 H' s A S):D3 (wo [d,b,u] H') s A S:=by
 have nn: ∀a∈A.all s,a∉[d,b,u]:=λa h1 h2=>by
  refine h.ex a h2 ?_;simp[SA.all]at h1;rcases h1 with rfl|h1
  ·exact hs
  ·exact ha a (by simpa using h1)
 have ex:=(h.mono e).ext;obtain⟨c,⟨a1,b1,c1⟩,⟨a2,b2,c2⟩,⟨a3,b3,c3⟩,⟨a4,b4,c4⟩,w⟩:=st;have n: ∀a∈A.all s,∀o,H' a=some o->wo [d,b,u] H' a=some o:=λa ha o ho=>A0J ho (nn a ha);exact⟨n _ (by simp[SA.all]) _ c,⟨a1,n _ (by simp[SA.all]) _ b1,c1.imp λ_ _ q=>q.ext ex⟩,⟨a2,n _ (by simp[SA.all]) _ b2,c2.imp λ_ _ q=>q.ext ex⟩,⟨a3,n _ (by simp[SA.all]) _ b3,c3.imp λ_ _ q=>q.ext ex⟩,⟨a4,n _ (by simp[SA.all]) _ b4,c4.imp λ_ _ q=>q.ext ex⟩,n _ (by simp[SA.all]) _ w⟩
def A5.kp{H H1 H2:Hp}{X:List Nh}(s:A5 H H1)(k:Kp X H1 H2)(h: ∀x∈X,H x=none):A5 H H2:=λb o e=>k b o (s b o e) λhb=>by rw[h b hb]at e;cases e
def _root_.L2.Kp.free{H H':Hp}{X:List Nh}{p:Nh}(k:Kp X H H')(h:H' p=none):H p=none\/p∈X:=by
 by_cases hp:p∈X
 ·exact .inr hp
 ·cases e:H p with
  |none=>exact .inl rfl
  |some o=>rw[k p o e hp]at h;cases h
def A0Y(H:Hp)(d dx b u:Nh)(D:PD)(c:Kcp0.Call)(Q:VK):Prop:=∀H' b' u' r D',Kp [d,b,u] H H'->(b'=b\/H b'=none)->(u'=u\/H u'=none)->OkD D'->B5 D'=(Kt (B5 D) c).1->
 (H r=none\/r∈[d,b,u])->H' r=some (.lst ((Kcp0Neutral.tell (Kt (B5 D) c).2).map V.int))->G6 H' d dx b' u' D'->Q (.ref r) H'
def A0Y.stay{H H1:Hp}{d dx b u:Nh}{D:PD}{c:Kcp0.Call}{Q:VK}(q:A0Y H d dx b u D c Q)(hd:G6 H d dx b u D)(ok:OkD D)(s:A5 H H1){xs:List V}{ans:List Int}(hx:xs=ans.map V.int){v:Kcp0.Ans}(e:Kt (B5 D) c=(B5 D,v))(hv:Kcp0Neutral.tell v=ans):
  ∀p,H1 p=none->Q (.ref p) (upd H1 p (.lst xs)):=λp hp=>by
 have s':=s.trans (A5.new (o:=.lst xs) hp);refine q _ b u p D (.of s') (.inl rfl) (.inl rfl) ok (by rw[e]) (.inl (s.free hp)) ?_ (hd.mono s');rw[A3,e,hx,hv]
inductive B4Z(vs:List V)(H:Hp)(Q:VK)(E:XK):Prop
 |mk(x dx:Nh)(_:vs=[.ref x])(_:H x=some (.ins ad.B9 dx []))(_: ∀H' b u,(∀a o,H a=some o->a≠x->H' a=some o)->H b=none->H u=none->G6 H' x dx b u ⟨P0 0,[],[]⟩->Q .non H')
inductive C1W(vs:List V)(H:Hp)(Q:VK)(E:XK):Prop
 |mk(d dx b u:Nh)(D:PD)(n:Nat)(_:vs=[.ref d,.int n])(_:G6 H d dx b u D)(_: ∀H' b' u',Kp [d,b,u] H H'->H b'=none->H u'=none->G6 H' d dx b' u' ⟨P0 n,[],[]⟩->Q .non H')
inductive A9X(vs:List V)(H:Hp)(Q:VK)(E:XK):Prop
 |mk(d dx b u s:Nh)(A:SA)(D:PD)(S:PS)(_:vs=[.ref d,.ref s])(_:G6 H d dx b u D)(_:D.bef.length<=32)(_:D3 (wo [d,b,u] H) s A S)(_: ∀H' b' u',Kp [d,b,u] H H'->(b'=b\/H b'=none)->H u'=none->A5 (wo [d,b,u] H) (wo [d,b',u'] H')->G6 H' d dx b' u' (goD D S)->Q .non H')
theorem D3.wo{H:Hp}{s:Nh}{A:SA}{S:PS}{X:List Nh}(st:D3 H s A S)(nn: ∀a∈A.all s,a∉X)(ex:O8 H (wo X H)):D3 (wo X H) s A S:=by obtain⟨c,⟨a1,b1,c1⟩,⟨a2,b2,c2⟩,⟨a3,b3,c3⟩,⟨a4,b4,c4⟩,w⟩:=st;have n: ∀a∈A.all s,∀o,H a=some o->L2.wo X H a=some o:=λa ha o ho=>A0J ho (nn a ha);exact⟨n _ (by simp[SA.all]) _ c,⟨a1,n _ (by simp[SA.all]) _ b1,c1.imp λ_ _ q=>q.ext ex⟩,⟨a2,n _ (by simp[SA.all]) _ b2,c2.imp λ_ _ q=>q.ext ex⟩,⟨a3,n _ (by simp[SA.all]) _ b3,c3.imp λ_ _ q=>q.ext ex⟩,⟨a4,n _ (by simp[SA.all]) _ b4,c4.imp λ_ _ q=>q.ext ex⟩,n _ (by simp[SA.all]) _ w⟩
def C20{H:Hp}{X:List Nh}(h: ∀a∈X,∀o,H a=some o->¬Imm o):O8 H (wo X H):=λa o e i=>A0J e λha=>h a ha o e i
def B1I{C dx:Nh}{x y z:V}: ¬Imm (.ins C dx (S9 x y z)):=λq=>by have q:M7 ((S9 x y z).map (·.1))=true:=q;rw[B1x]at q;cases q
def G6.build{H:Hp}{d dx b u s:Nh}{A:SA}{S:PS}(h1:H d=some (.ins ad.B9 dx (S9 (.ref s) (.ref b) (.ref u))))(h2:H b=some (.lst []))(h3:H u=some (.lst []))(ne:b≠u)(st:D3 H s A S)(nn: ∀a∈A.all s,a≠d/\a≠b/\a≠u):G6 H d dx b u ⟨S,[],[]⟩:=by
 have ex:O8 H (wo [d,b,u] H):=C20 λa ha o e=>by
  simp at ha;rcases ha with rfl|rfl|rfl
  ·rw[h1]at e;cases e;exact B1I
  ·rw[h2]at e;cases e;exact id
  ·rw[h3]at e;cases e;exact id
 exact⟨⟨s,A,h1,st.wo (λa ha=>by have:=nn a ha;simp[this]) ex⟩,⟨[],h2,.nil⟩,⟨[],h3,.nil⟩,ne⟩
def G6.re{W H':Hp}{d dx b u s:Nh}{A:SA}{D:PD}{bs us:List Nh}(w:A5 W (L2.wo [d,b,u] H'))(h1:H' d=some (.ins ad.B9 dx (S9 (.ref s) (.ref b) (.ref u))))(t:D3 W s A D.now)(h2:H' b=some (.lst (bs.map V.ref)))(h3:C1 (StX W) bs D.bef)(h4:H' u=some (.lst (us.map V.ref)))(h5:C1 (StX W) us D.und)(ne:b≠u):G6 H' d dx b u D:=
 ⟨⟨s,A,h1,t.mono w⟩,⟨bs,h2,h3.imp λ_ _ q=>q.mono w⟩,⟨us,h4,h5.imp λ_ _ q=>q.mono w⟩,ne⟩
def C1.drop1{S:Type}{R:Nh->S->Prop}{as:List Nh}{xs:List S}(h:C1 R as xs):C1 R (as.drop 1) (xs.drop 1):=
 ⟨by simp[h.1],λi a x p q=>h.2 (1+i) a x (by rw[List.getElem?_drop]at p;exact p) (by rw[List.getElem?_drop]at q;exact q)⟩
def C5s(x:V)(xs:List V):A2t (x::xs) (some 1) none=xs:=B8n [x] xs
def D3.ne_none{H:Hp}{s:Nh}{A:SA}{S:PS}(h:D3 H s A S){p:Nh}(hp:H p=none): ∀a∈A.all s,a≠p:=λa ha e=>by obtain⟨o,ho,_⟩:=h.lists a ha;rw[e,hp]at ho;cases ho
def C3d(T:Txt P w K mg):Kls P w K mg base 3 "Desk" ad.B9 ["self"] (B4Z):=by
 refine T.C2Q.g T (A7r _) [] (by nomatch B0C T) ?_;obtain⟨x,dx,rfl,hx,k⟩;simp[A7r];intro s ds hs hds _;refine⟨s,ds,0,rfl,A3,λH1 A e1 dis fr k1 st=>⟨rfl,?_⟩⟩;have s1:A5 H H1:=A0g hs hds k1;have hx1:=s1 _ _ hx;simp[↓Ob hx1,D8];intro p1 g1;have n1:x≠p1:=A2 A3 g1;simp[↓N0 n1,D8];intro p2 g2;have n2:x≠p2:=A2 A3 g2;simp[↓N0 n2,D8];dsimp[F2]at g1 g2;obtain⟨a1,b1⟩:=g1;obtain⟨a2,c21,_,b2⟩:=g2;have mx: ∀a∈A.all s,a≠x:=λa ha=>by
  simp[SA.all]at ha;rcases ha with rfl|ha
  ·exact A2 hx hs|>.symm
  ·have h0:=fr a (by simpa using ha);rintro rfl;rw[A4 (A2 hx hs),A4 (A2 hx hds),hx]at h0;cases h0
 have mp1:=st.ne_none b1;have mp2:=st.ne_none b2;have SS:A5 H1 (upd (upd H1 p1 (.lst [])) p2 (.lst [])):=(A5.new b1).trans (A5.new (F2.mpr ⟨c21,b2⟩));refine k _ p1 p2 ?_ (s1.free b1) (s1.free b2) (G6.build (s:=s) (A:=A) ?_ ?_ ?_ c21.symm ?_ λa ha=>⟨mx a ha,mp1 a ha,mp2 a ha⟩)
 ·intro b o e hb;have q: ∀{p},H p=none->b≠p:=λhp=>A2 e hp;simp[upd,hb,q (s1.free b1),q (s1.free b2),s1 _ _ e]
 ·rw[A3];rfl
 ·simp[upd,a1,c21.symm]
 ·simp[upd,a2]
 ·refine st.keep (X:=[x,p1,p2]) (λb o e hb=>?_) (λb o e i=>?_) λa ha=>by simp[mx a ha,mp1 a ha,mp2 a ha]
  ·simp at hb;simp[upd,hb,e]
  ·have hb:b≠x:=by rintro rfl;rw[hx1]at e;cases e;have i:M7 []=true:=i;cases i
   simp[upd,hb,A2 e b1,A2 e b2,e]
def B0y:T.A3J.C T base 3 (C1W):=by
 refine T.A3J.g T (A3U _) [] (by nomatch B0C T) ?_;obtain⟨x,dx,b,u,D,n,rfl,hd,k⟩;obtain⟨⟨s0,A0,hx,_⟩,_,_,_⟩:=hd;simp[A3U];intro s ds hs hds _;refine⟨s,ds,n,rfl,A3,λH1 A e1 dis fr k1 st=>⟨rfl,?_⟩⟩;have s1:A5 H H1:=A0g hs hds k1;have hx1:=s1 _ _ hx;simp[↓Ob hx1];intro p1 g1;have n1:x≠p1:=A2 A3 g1;simp[↓N0 n1];intro p2 g2;have n2:x≠p2:=A2 A3 g2;simp[↓N0 n2];dsimp[F2]at g1 g2;obtain⟨a1,b1⟩:=g1;obtain⟨a2,c21,_,b2⟩:=g2;have mx: ∀a∈A.all s,a≠x:=λa ha=>by
  simp[SA.all]at ha;rcases ha with rfl|ha
  ·exact A2 hx hs|>.symm
  ·have h0:=fr a (by simpa using ha);rintro rfl;rw[A4 (A2 hx hs),A4 (A2 hx hds),hx]at h0;cases h0
 have mp1:=st.ne_none b1;have mp2:=st.ne_none b2;refine k _ p1 p2 ?_ (s1.free b1) (s1.free b2) (G6.build (s:=s) (A:=A) ?_ ?_ ?_ c21.symm ?_ λa ha=>⟨mx a ha,mp1 a ha,mp2 a ha⟩)
 ·intro b o e hb;have q: ∀{p},H p=none->b≠p:=λhp=>A2 e hp;simp at hb;simp[upd,hb,q (s1.free b1),q (s1.free b2),s1 _ _ e]
 ·rw[A3]
 ·simp[upd,a1,c21.symm]
 ·simp[upd,a2]
 ·refine st.keep (X:=[x,p1,p2]) (λb o e hb=>?_) (λb o e i=>?_) λa ha=>by simp[mx a ha,mp1 a ha,mp2 a ha]
  ·simp at hb;simp[upd,hb,e]
  ·have hb:b≠x:=by rintro rfl;rw[hx1]at e;cases e;exact B1I i
   simp[upd,hb,A2 e b1,A2 e b2,e]
def M0:T.A2J.C T base 1 (A9X):=by
 refine T.A2J.g T (A2Q) [] (λ_ _=>trivial) ?_;obtain⟨d,dx,b,u,s,A,D,S,rfl,hd,hb,st,k⟩;obtain⟨n1,n2⟩:=hd.ne_d;obtain⟨⟨s0,A0,hx,t0⟩,⟨bs,h3,h4⟩,⟨us,h5,h6⟩,ne⟩:=hd;have hl:=h4.1;have hsz:bs.length<sizeLine:=by rw[hl];exact Hr hb (by decide)
 simp[A2Q,↓Ob hx,↓Ls h3,↓iL h3,↓N0 n1];refine⟨hsz,?_⟩
 have key: ∀H' b' u' bs',Kp [d,b,u] H H'->(b'=b\/H b'=none)->H u'=none->b'≠u'->H' d=some (.ins ad.B9 dx (S9 (.ref s) (.ref b') (.ref u')))->H' b'=some (.lst (bs'.map V.ref))->H' u'=some (.lst [])->C1 (StX (wo [d,b,u] H)) bs' (goD D S).bef->Q .non H':=
  λH' b' u' bs' kp e1 e2 e3 g1 g2 g3 g4=>by
   have w:A5 (wo [d,b,u] H) (wo [d,b',u'] H'):=A5M kp λa ha=>by
    simp at ha;rcases ha with rfl|rfl|rfl
    ·simp
    ·rcases e1 with rfl|e1
     ·simp
     ·exact .inr e1
    ·exact .inr e2
   exact k H' b' u' kp e1 e2 w (G6.re (D:=goD D S) (us:=[]) w g1 st g2 g4 g3 .nil e3)
 have h4':C1 (StX (wo [d,b,u] H)) (bs++[s0]) (D.bef++[D.now]):=h4.append (.cons ⟨A0,t0⟩ .nil);split
 ·rename_i h32;intro p1 g1;have m1:d≠p1:=by rintro rfl;rw[A4 n1,hx]at g1;cases g1
  simp[↓N0 m1,↓N0 n1,↓Ob hx];intro p2 g2;have m2:d≠p2:=A2 A3 g2;simp[↓N0 m2];dsimp[F2]at g1 g2;obtain⟨a1,b1⟩:=g1;obtain⟨a2,c21,c2b,b2⟩:=g2;refine key _ p1 p2 ((bs++[s0]).drop 1) ?_ (.inr b1) b2 c21.symm (by rw[A3]) ?_ ?_ ?_
  ·intro c o e hc;simp at hc;simp[upd,hc,A2 e b1,A2 e b2,e]
  ·have:A2t (bs.map V.ref++[.ref s0]) (some 1) none=((bs++[s0]).drop 1).map V.ref:=by
    cases bs with
    |nil=>simp at h32
    |cons x r=>simp[C5s]
   simp[upd,m1.symm,c21.symm,this]
  ·simp[upd,m2.symm]
  ·have:D.bef.length=32:=by lia
   simpa[goD,this] using h4'.drop1
 ·rename_i h32;intro p1 g1;have m1:d≠p1:=by rintro rfl;rw[A4 n1,hx]at g1;cases g1
  simp[↓N0 m1,↓N0 n1,↓Ob hx];dsimp[F2]at g1;obtain⟨a1,b1⟩:=g1;refine key _ b p1 (bs++[s0]) ?_ (.inl rfl) b1 (by intro e;exact a1 e.symm) (by rw[A3]) ?_ ?_ ?_
  ·intro c o e hc;simp at hc;simp[upd,hc,A2 e b1,e]
  ·simp[upd,n1.symm,Ii a1]
  ·simp[upd,m1.symm]
  ·have:D.bef.length≠32:=by lia
   simpa[goD,this] using h4'
inductive B41(c:Kcp0.Call)(vs:List V)(H:Hp)(Q:VK)(E:XK):Prop
 |mk(d dx b u:Nh)(D:PD)(_:vs=[.ref d])(_:G6 H d dx b u D)(_:OkD D)(_:A0Y H d dx b u D c Q)
inductive A9Z(c:Nat->Kcp0.Call)(vs:List V)(H:Hp)(Q:VK)(E:XK):Prop
 |mk(d dx b u:Nh)(D:PD)(k:Nat)(_:vs=[.ref d,.int k])(_:G6 H d dx b u D)(_:OkD D)(_:A0Y H d dx b u D (c k) Q)
inductive C1U(c:Nat->Nat->Kcp0.Call)(vs:List V)(H:Hp)(Q:VK)(E:XK):Prop
 |mk(d dx b u:Nh)(D:PD)(k j:Nat)(_:vs=[.ref d,.int k,.int j])(_:G6 H d dx b u D)(_:OkD D)(_:A0Y H d dx b u D (c k j) Q)
inductive C1T(c:Nat->Nat->Nat->Kcp0.Call)(vs:List V)(H:Hp)(Q:VK)(E:XK):Prop
 |mk(d dx b u:Nh)(D:PD)(k j l:Nat)(_:vs=[.ref d,.int k,.int j,.int l])(_:G6 H d dx b u D)(_:OkD D)(_:A0Y H d dx b u D (c k j l) Q)
def A8x{n:Nat}(h:n<=6):OkS (P0 n):=⟨h,by simp[P0],by simp[P0],by simp[P0],by simp[P0],by simp[P0],by simp[P0],by simp[P0],by simp[P0],by simp[P0]⟩
def big{n:Nat}(h:n<=100000):n<=sizeLine:=Hc h (by decide)
def A8c{n:Nat}(h:n<=100000):n<sizeLine:=Hr h (by decide)
def A0G(D:PD):(B5 D).core=B2 D.now:=rfl
def B0B:T.A3N.C T base 4 (A9Z .begin_):=by
 refine T.A3N.g T (A3Y _) [] (by nomatch B0y T) ?_;obtain⟨d,dx,b,u,D,n,rfl,hd,ok,q⟩;have e1:(n<2\/6<n)->Kt (B5 D) (.begin_ n)=(B5 D,.num (-22)):=λh=>by simp[Kt,Kcp0.PARTIES,h]
 have e2: ¬(n<2\/6<n)->Kt (B5 D) (.begin_ n)=(⟨Na n,[],[]⟩,.num 0):=λh=>by simp[Kt,Kcp0.PARTIES,h]
 simp[A3Y];have bad:(n<2\/6<n)->((1:Nat)<=sizeLine/\∀p,H p=none->Q (.ref p) (upd H p (.lst [.int (-22)]))):=λh=>⟨by decide,q.stay hd ok (A5.refl _) (ans:=[-22]) rfl (e1 h) rfl⟩;split
 ·exact bad (by lia)
 ·split
  ·exact bad (by lia)
  ·rename_i h1 h2;have hn: ¬(n<2\/6<n):=by lia
   refine⟨d,dx,b,u,D,n,rfl,hd,λH' b' u' kp h3 h4 hd'=>?_⟩;simp;refine⟨by decide,λp hp=>?_⟩;refine q _ b' u' p ⟨P0 n,[],[]⟩ (kp.trans (.of (A5.new hp))) (.inr h3) (.inr h4) ⟨A8x (by lia),by simp,by simp,by simp⟩ (by rw[e2 hn];rfl) (kp.free hp) (by rw[A3,e2 hn];rfl) (hd'.mono (A5.new hp))
def A76:T.A2E.C T base 1 (B41 .undo):=by
 refine T.A2E.g T (A0C) [] (λ_ _=>trivial) ?_;obtain⟨d,dx,b,u,D,rfl,hd,ok,q⟩;obtain⟨n1,n2⟩:=hd.ne_d;have hd0:=hd;obtain⟨⟨s0,A0,hx,t0⟩,⟨bs,h3,h4⟩,⟨us,h5,h6⟩,ne⟩:=hd;obtain⟨now,bef,und⟩:=D;simp only at h4 h6 t0;have hf:=ok.few;simp only at hf;have l4:=h4.1;have l6:=h6.1;by_cases hb:bef=[]
 ·subst hb;have:bs=[]:=Js l4;subst this;simp[A0C,↓Ob hx,↓Ls h3];exact⟨by decide,q.stay hd0 ok (A5.refl _) (v:=.num (-6)) (ans:=[-6]) rfl (by simp[Kt,B5]) rfl⟩
 ·obtain⟨bef',S,rfl⟩: ∃l S,bef=l++[S]:=⟨bef.dropLast,bef.getLast hb,(Jd hb).symm⟩
  obtain⟨a,bs',rfl,⟨A,ta⟩,h4'⟩:=h4.last;simp[A0C,↓Ob hx,↓Ls h3];simp[↓Ob hx,↓Ls h5,↓iL h5,↓N0 n2,↓Lsn ne,↓Ls h3,↓N0 n1,↓Lsn n1.symm];refine⟨by(simp at hf;exact Hr (show us.length<=32 by lia) (by decide)),by decide,λp hp=>?_⟩;have hp':=hp;dsimp[F2]at hp';have l4':=h4'.1;have W:A5 (wo [d,b,u] H) (wo [d,b,u] (upd (upd (upd (upd H u (.lst (us.map V.ref++[.ref s0]))) b (.lst (bs'.map V.ref))) d (.ins ad.B9 dx (S9 (.ref a) (.ref b) (.ref u)))) p (.lst [.int bs'.length]))):=A5M (λc o e hc=>by simp at hc;simp[upd,hc,e,A2 e hp'.2.2.2]) λa h=>.inl h;refine q _ b u p ⟨S,bef',und++[now]⟩ (λc o e hc=>by simp at hc;simp[upd,hc,e,A2 e hp'.2.2.2]) (.inl rfl) (.inl rfl) ?_ (by simp[Kt,B5]) (.inl hp'.2.2.2) (by rw[A3];simp[Kt,B5,Kcp0Neutral.tell,l4']) ?_
  ·have:=ok.bef;refine⟨this S (by simp),λS' h=>this S' (by simp[h]),λS' h=>?_,by simp at hf ⊢;lia⟩;rcases Gp.mp h with h|h
   ·exact ok.und S' h
   ·rw[Gq.mp h];exact ok.now
  ·refine G6.re (D:=⟨S,bef',und++[now]⟩) (bs:=bs') (us:=us++[s0]) W ?_ ta ?_ h4' ?_ (h6.append (.cons ⟨A0,t0⟩ .nil)) ne
   ·simp[upd,Ii hp'.1]
   ·simp[upd,Ii hp'.2.1,n1.symm]
   ·simp[upd,Ii hp'.2.2.1,n2.symm,ne.symm]
def A79:T.A2H.C T base 1 (B41 .redo):=by
 refine T.A2H.g T (A0E) [] (λ_ _=>trivial) ?_;obtain⟨d,dx,b,u,D,rfl,hd,ok,q⟩;obtain⟨n1,n2⟩:=hd.ne_d;have hd0:=hd;obtain⟨⟨s0,A0,hx,t0⟩,⟨bs,h3,h4⟩,⟨us,h5,h6⟩,ne⟩:=hd;obtain⟨now,bef,und⟩:=D;simp only at h4 h6 t0;have hf:=ok.few;simp only at hf;have l4:=h4.1;have l6:=h6.1;by_cases hb:und=[]
 ·subst hb;have:us=[]:=Js l6;subst this;simp[A0E,↓Ob hx,↓Ls h5];exact⟨by decide,q.stay hd0 ok (A5.refl _) (v:=.num (-6)) (ans:=[-6]) rfl (by simp[Kt,B5]) rfl⟩
 ·obtain⟨und',S,rfl⟩: ∃l S,und=l++[S]:=⟨und.dropLast,und.getLast hb,(Jd hb).symm⟩
  obtain⟨a,us',rfl,⟨A,ta⟩,h6'⟩:=h6.last;simp[A0E,↓Ob hx,↓Ls h5];simp[↓Ob hx,↓Ls h3,↓iL h3,↓N0 n2,↓Lsn ne.symm,↓Ls h5,↓N0 n1,↓Lsn n2.symm];simp at hf;have hl:bef.length+1<=32:=by lia
  refine⟨by exact Hr (show bs.length<=32 by lia) (by decide),by decide,λp hp=>?_⟩;have hp':=hp;dsimp[F2]at hp';have l6':=h6'.1;have W:A5 (wo [d,b,u] H) (wo [d,b,u] (upd (upd (upd (upd H b (.lst (bs.map V.ref++[.ref s0]))) u (.lst (us'.map V.ref))) d (.ins ad.B9 dx (S9 (.ref a) (.ref b) (.ref u)))) p (.lst [.int us'.length]))):=A5M (λc o e hc=>by simp at hc;simp[upd,hc,e,A2 e hp'.2.2.2]) λa h=>.inl h;refine q _ b u p ⟨S,bef++[now],und'⟩ (λc o e hc=>by simp at hc;simp[upd,hc,e,A2 e hp'.2.2.2]) (.inl rfl) (.inl rfl) ?_ ?_ (.inl hp'.2.2.2) (by rw[A3];simp[Kt,B5,Kcp0Neutral.tell,l6']) ?_
  ·have:=ok.und;refine⟨this S (by simp),λS' h=>?_,λS' h=>this S' (by simp[h]),by simp;lia⟩;rcases Gp.mp h with h|h
   ·exact ok.bef S' h
   ·rw[Gq.mp h];exact ok.now
  ·simp[Kt,B5];rw[Jm];simp[Kcp0.BACK];lia
  ·refine G6.re (D:=⟨S,bef++[now],und'⟩) (bs:=bs++[s0]) (us:=us') W ?_ ta ?_ (h4.append (.cons ⟨A0,t0⟩ .nil)) ?_ h6' ne
   ·simp[upd,Ii hp'.1]
   ·simp[upd,Ii hp'.2.2.1,n1.symm,ne]
   ·simp[upd,Ii hp'.2.1,n2.symm]
inductive C8G(H:Hp)(d dx b u:Nh)(D:PD):Prop
 |mk(s:Nh)(A:SA)(_:H d=some (.ins ad.B9 dx (S9 (.ref s) (.ref b) (.ref u))))(_:D3 H s A D.now)
def G6.st{H:Hp}{d dx b u:Nh}{D:PD}(h:G6 H d dx b u D):C8G H d dx b u D:=by obtain⟨s,A,h1,h2⟩:=h.now;exact⟨s,A,h1,h2.mono (B3K _ _)⟩
def B2d:T.A4Z.C T base 1 (B41 .pays):=by refine T.A4Z.g T (A5i) [] (λ_ _=>trivial) ?_;obtain⟨d,dx,b,u,D,rfl,hd,ok,q⟩;obtain⟨s,A,hx,st⟩:=hd.st;obtain⟨ps,h1,h2⟩:=st.pays;simp[A5i,↓Ob hx,↓Ob st.cell,↓Ls h1,h2.1];exact⟨by decide,q.stay hd ok (A5.refl _) (v:=.num D.now.pays.length) (ans:=[(D.now.pays.length:Int)]) rfl (by simp[Kt,B5,B2]) rfl⟩
def B3v:T.A6D.C T base 1 (A9Z .pay):=by
 refine T.A6D.g T (A7c) [none] (λ_ _=>trivial) ?_;obtain⟨d,dx,b,u,D,n,rfl,hd,ok,q⟩;obtain⟨s,A,hx,st⟩:=hd.st;obtain⟨ps,h1,h2⟩:=st.pays;simp[A7c,↓Ob hx,↓Ob st.cell,↓Ls h1,h2.1];split
 ·rename_i h;exact⟨by decide,q.stay hd ok (A5.refl _) (v:=.num (-2)) (ans:=[-2]) rfl (by simp[Kt,B5,B2,He h]) rfl⟩
 ·rename_i h;have hn:n<D.now.pays.length:=by lia
  have e:D.now.pays[n]?=some D.now.pays[n]:=by simp[hn]
  obtain⟨a,ha,dp,pa⟩:=h2.at e;refine gI (i:=.ref a) (by rw[M4];simp[ha]) ?_;simp[↓Ob pa];refine⟨by decide,q.stay hd ok (A5.refl _) (v:=.some_ (D.now.pays[n].day) [(D.now.pays[n].deal:Int),(D.now.pays[n].from_:Int),(D.now.pays[n].to_:Int),(D.now.pays[n].unit:Int),(D.now.pays[n].much:Int)]) (ans:=[(D.now.pays[n].day:Int),(D.now.pays[n].deal:Int),(D.now.pays[n].from_:Int),(D.now.pays[n].to_:Int),(D.now.pays[n].unit:Int),(D.now.pays[n].much:Int)]) rfl (by simp[Kt,B5,B2,e]) rfl⟩
def B0v:T.A3G.C T base 2 (A9Z .about):=by
 refine T.A3G.g T (A1b _) [none] (by nomatch J8 T) ?_;obtain⟨d,dx,b,u,D,n,rfl,hd,ok,q⟩;obtain⟨s,A,hx,st⟩:=hd.st;obtain⟨ps,h1,h2⟩:=st.shelf;by_cases hn:n<D.now.shelf.length
 ·generalize hc:D.now.shelf[n]=c;have e:D.now.shelf[n]?=some c:=by simp[hn,hc]
  obtain⟨a,ha,pa⟩:=h2.at e;obtain⟨d1,l1,ks,c1,c2,c3⟩:=pa.cell;simp[A1b,B3,↓Ob hx,↓Ob st.cell,↓Ls h1,h2.1,hn];refine gI (i:=.ref a) (by rw[M4];simp[ha]) ?_;simp[↓Ob c1];have P3: ∀H',A5 H H'->∀z,z=(if Lv c then(1:Int) else 0)->(4:Nat)<=sizeLine/\∀p,H' p=none->Q (.ref p) (upd H' p (.lst [.int (Nd.con c).size,.int (Nd.con c).last,.int (Nd.con c).names,.int z])):=λH' s z hz=>⟨by decide,q.stay hd ok s (v:=.some_ (Ku c) [(Mp c:Int),(Ky (λj=>Mo j c):Int),if Lv c then 1 else 0]) (ans:=[(Ku c:Int),(Mp c:Int),(Ky (λj=>Mo j c):Int),z]) rfl (by simp[Kt,B5,B2,e]) (by rw[hz];rfl)⟩;split
  ·rename_i hp;exact P3 H (A5.refl _) 1 (by(have hp:Lv c=true:=hp;simp[hp]))
  ·rename_i hp;exact P3 H (A5.refl _) 0 (by(have hp: ¬Lv c=true:=hp;simp[hp]))
 ·simp[A1b,B3,↓Ob hx,↓Ob st.cell,↓Ls h1,h2.1,hn];exact⟨by decide,q.stay hd ok (A5.refl _) (v:=.num (-2)) (ans:=[-2]) rfl (by simp[Kt,B5,B2,He (Ia hn)]) rfl⟩
def B2c:T.A4Y.C T base 2 (C1U .same):=by
 refine T.A4Y.g T (A0y _) [] (by nomatch J8 T) ?_;obtain⟨d,dx,b,u,D,n,m,rfl,hd,ok,q⟩;obtain⟨s,A,hx,st⟩:=hd.st;obtain⟨ps,h1,h2⟩:=st.shelf;by_cases hn:n<D.now.shelf.length
 ·by_cases hm:m<D.now.shelf.length
  ·generalize hc:D.now.shelf[n]=c;generalize hc':D.now.shelf[m]=c';have e:D.now.shelf[n]?=some c:=by simp[hn,hc]
   have e':D.now.shelf[m]?=some c':=by simp[hm,hc']
   obtain⟨a,ha,pa⟩:=h2.at e;obtain⟨a',ha',pa'⟩:=h2.at e';obtain⟨d1,l1,ks,c1,c2,c3⟩:=pa.cell;obtain⟨d1',l1',ks',c1',c2',c3'⟩:=pa'.cell;have w1:=(ok.now.shC c (Gw e)).1;have w2:=(ok.now.shC c' (Gw e')).1;simp[A0y,B3,↓Ob hx,↓Ob st.cell,↓Ls h1,h2.1,hn,hm];refine gI (i:=.ref a) (by rw[M4];simp[ha]) ?_;simp[↓Ob c1,↓Ob hx,↓Ob st.cell,↓Ls h1];refine gI (i:=.ref a') (by rw[M4];simp[ha']) ?_;simp[↓Ob c1',A5K];have ht:(Nd.con c).txt=(Nd.con c').txt↔c=c':=⟨λh=>B0X w1 w2 h,λh=>by rw[h]⟩
   have P3: ∀z,z=(if c=c' then(1:Int) else 0)->(1:Nat)<=sizeLine/\∀p,H p=none->Q (.ref p) (upd H p (.lst [.int z])):=λz hz=>⟨by decide,q.stay hd ok (A5.refl _) (v:=.num z) (ans:=[z]) rfl (by simp[Kt,B5,B2,e,e',hz]) rfl⟩;split
   ·rename_i h;exact P3 1 (by simp[ht.mp h])
   ·rename_i h;exact P3 0 (by simp[mt ht.mpr h])
  ·simp[A0y,B3,↓Ob hx,↓Ob st.cell,↓Ls h1,h2.1,hn,hm];exact⟨by decide,q.stay hd ok (A5.refl _) (v:=.num (-2)) (ans:=[-2]) rfl (by simp[Kt,B5,B2,He (Ia hm)]) rfl⟩
 ·simp[A0y,B3,↓Ob hx,↓Ob st.cell,↓Ls h1,h2.1,hn];exact⟨by decide,q.stay hd ok (A5.refl _) (v:=.num (-2)) (ans:=[-2]) rfl (by simp[Kt,B5,B2,He (Ia hn)]) rfl⟩
inductive B9s(vs:List V)(H:Hp)(Q:VK)(E:XK):Prop
 |mk(a:Nh)(c:Con)(_:vs=[.ref a])(_:B0 H a (.con c))(_:(Ks c).length<=20000)(_: ∀p,H p=none->Q (.ref p) (upd H p (.lst ((Lj (Ks c)).map V.int))))
def A64:T.A6Q.C T base 1 (B9s):=by
 refine T.A6Q.g (N:=["promise","sign"]) T (A7n) [none] (λ_ _=>trivial) ?_;obtain⟨a,c,rfl,pa,hl,q⟩;obtain⟨d1,l1,ks,c1,c2,c3⟩:=pa.cell;simp[A7n,↓Ob c1];refine A0S B0O (λv=>match v with|.str s=>some (.int (s.cps.getD 0 0:Nat))|_=>none) ?_ ?_ ?_
 ·simp[S,Nd.txt];exact Hr hl (by decide)
 ·intro x hx H' s Y N q;simp at hx;obtain⟨c,hc,rfl⟩:=hx;simp at q ⊢;exact⟨rfl,q⟩
 ·intro D hD;have:List.filterMap (λv=>match v with|.str s=>some (.int (s.cps.getD 0 0:Nat))|_=>none) ((S (Nd.con c).txt).cps.toList.map λc=>V.str ⟨#[c]⟩)=(Lj (Ks c)).map V.int:=by
   simp[S,Nd.txt,Lj,List.filterMap_map]
   induction Ks c with
   |nil=>rfl
   |cons x r ih=>simp[Ib,ih]
  rw[this];exact q D hD
def okS.len{c:Con}(h:okS c):(Ks c).length<=20000:=by
 have:=(A1N c h.1).1;have:=h.2
 lia
def B2b:T.A4X.C T base 2 (A9Z .write):=by
 refine T.A4X.g T (A16 _ _) [none] (by nomatch A64 T,J8 T) ?_;obtain⟨d,dx,b,u,D,n,rfl,hd,ok,q⟩;obtain⟨s,A,hx,st⟩:=hd.st;obtain⟨ps,h1,h2⟩:=st.shelf;by_cases hn:n<D.now.shelf.length
 ·generalize hc:D.now.shelf[n]=c;have e:D.now.shelf[n]?=some c:=by simp[hn,hc]
  obtain⟨a,ha,pa⟩:=h2.at e;have oc:=(ok.now.shC c (Gw e)).len;simp[A16,B3,↓Ob hx,↓Ob st.cell,↓Ls h1,h2.1,hn];refine gI (i:=.ref a) (by rw[M4];simp[ha]) ?_;refine⟨a,c,rfl,pa,oc,λp hp=>?_⟩;simp;refine⟨by decide,λp2 hp2=>?_⟩;have n2:p≠p2:=A2 A3 hp2;simp[↓Lsn n2];refine⟨by simp[Lj];exact big (by lia),?_⟩;refine q.stay hd ok (((A5.new hp).trans (A5.new hp2))) (v:=.some_ (Ks c).length (Lj (Ks c))) (ans:=((Ks c).length:Int)::Lj (Ks c)) ?_ (by simp[Kt,B5,B2,e]) rfl;simp[Lj]
 ·simp[A16,B3,↓Ob hx,↓Ob st.cell,↓Ls h1,h2.1,hn];exact⟨by decide,q.stay hd ok (A5.refl _) (v:=.num (-2)) (ans:=[-2]) rfl (by simp[Kt,B5,B2,He (Ia hn)]) rfl⟩
inductive C1R(vs:List V)(H:Hp)(Q:VK)(E:XK):Prop
 |mk(d dx b u:Nh)(D:PD)(n:Nat)(_:vs=[.ref d,.int n])(_:G6 H d dx b u D)(_:D.now.items.length<=48)(_:(D.now.items.find? (λi=>i.no==n)=none->Q .non H))(_: ∀a i,D.now.items.find? (λi=>i.no==n)=some i->C8 H a i->Q (.ref a) H)
def B5B{S:Type}(p:S->Bool)(l:List S)(i:Nat)(x:S)(hx:l[i]?=some x)(hn: ∀j y,j<i->l[j]?=some y->p y=false)(hp:p x=true):l.find? p=some x:=by
 induction l generalizing i with
 |nil=>simp at hx
 |cons y r ih=>
  cases i with
  |zero=>simp at hx;subst hx;simp[hp]
  |succ i=>have:=hn 0 y (by lia) rfl;simp[this];exact ih i (by simpa using hx) λj z hj hz=>hn (j+1) z (by lia) (by simpa using hz)
def A14:T.A5d.C T base 1 (C1R):=by
 refine T.A5d.g T (A5r) [none] (λ_ _=>trivial) ?_;obtain⟨d,dx,b,u,D,n,rfl,hd,hl,q0,q1⟩;obtain⟨s,A,hx,st⟩:=hd.st;obtain⟨is,h1,h2⟩:=st.items;simp[A5r,↓Ob hx,↓Ob st.cell,↓Ls h1];refine Y9 (F3 (G:=λH'=>H'=H) λH' e=>e▸h1) (λi S H'=>H'=H/\(∃o,S=[some (.ref d),some (.int n),o])/\∀j y,j<i->D.now.items[j]?=some y->(y.no==n)=false) ⟨rfl,⟨_,rfl⟩,λj y h=>by lia⟩ (λ_ _ _ h=>h.1) ?_ ?_
 ·rintro i x S H' hi ⟨rfl,⟨o,rfl⟩,hn⟩ N hN;rw[Ha]at hi;obtain⟨a,ha,rfl⟩:=Hh.mp hi;obtain⟨it,e,ia⟩:=h2.get ha;have ia':=ia;obtain⟨di,pi,c1,c2⟩:=ia;simp[↓Ob c1];split
  ·rename_i h;have h':it.no=n:=by lia
   exact q1 a it (B5B _ _ i it e hn (by simp[h'])) ia'
  ·rename_i h;refine hN _ _ ⟨rfl,⟨_,rfl⟩,λj y hj hy=>?_⟩;by_cases hji:j=i
   ·subst hji;rw[e]at hy;cases hy;have:it.no≠n:=by lia
    simp[this]
   ·exact hn j y (by lia) hy
 ·rintro S H' ⟨rfl,⟨o,rfl⟩,hn⟩;simp;refine q0 ?_;rw[List.find?_eq_none];intro y hy;obtain⟨j,hj,e⟩:=List.getElem_of_mem hy;have:=hn j y (by simp[h2.1];lia) (by simp[hj,e]);simp[this]
def Q0(D:PD)(n:Nat):Kcp0.find (B2 D.now) n=(D.now.items.find? λi=>i.no==n).map (G8 D.now.day):=by unfold Kcp0.find B2;dsimp[List.find?_map];rfl
def B2e:T.A40.C T base 2 (A9Z .item):=by
 refine T.A40.g T (A5j _ _) [none] (by nomatch A14 T,A64 T) ?_;obtain⟨d,dx,b,u,D,n,rfl,hd,ok,q⟩;simp[A5j];refine⟨d,dx,b,u,D,n,rfl,hd,ok.now.items,λhf=>?_,λa i hf ia=>?_⟩
 ·simp;exact⟨by decide,q.stay hd ok (A5.refl _) (v:=.num (-2)) (ans:=[-2]) rfl (by simp[Kt,A0G,Q0,hf]) rfl⟩
 ·obtain⟨di,pi,c1,c2⟩:=ia;have oi:=ok.now.itI i (Jy hf);have oc:=oi.c.len;simp[↓Ob c1];refine⟨by decide,λp hp=>?_⟩;simp[↓N0 (A2 c1 hp),↓Ob c1];have s1:=A5.new (o:=.lst [.int i.deal,.int i.holder,.int i.other,.int i.k]) hp;refine⟨pi,i.c,rfl,c2.mono s1,oc,λp2 hp2=>?_⟩;have n2:p≠p2:=A2 A3 hp2;simp[↓Lsn n2];refine⟨by simp[Lj];exact big (by lia),?_⟩;refine q.stay hd ok (s1.trans (A5.new hp2)) (v:=.some_ i.deal ([(i.holder:Int),(i.other:Int),i.k]++Lj (Ks i.c))) (ans:=[(i.deal:Int),(i.holder:Int),(i.other:Int),i.k]++Lj (Ks i.c)) ?_ (by simp[Kt,A0G,Q0,hf,G8]) (by simp[Kcp0Neutral.tell]);simp[Lj]
def A4E(S:PS)(k:Nat):Bool:=S.items.any (λi=>nmM i.c k)&&!S.sf k
inductive B9t(vs:List V)(H:Hp)(Q:VK)(E:XK):Prop
 |mk(s:Nh)(A:SA)(S:PS)(_:vs=[.ref s])(_:D3 H s A S)(_:Q (.int (Ky (A4E S))) H)
def A1l:T.A1k.C T base 2 (B9t):=by
 refine T.A1k.g T (A1m _) [none,none] (by nomatch A0W T) ?_;obtain⟨s,A,S,rfl,st,q⟩;obtain⟨is,h1,h2⟩:=st.items;simp[A1m,↓Ob st.cell,↓Ls h1];refine Y9 (F3 (G:=λH'=>H'=H) λH' e=>e▸h1) (λi J H'=>H'=H/\∃o,J=[some (.ref s),some (.int (Ky λk=>(S.items.take i).any λx=>nmM x.c k)),o]) ⟨rfl,_,by simp[N4.mpr];rfl⟩ (λ_ _ _ h=>h.1) ?_ ?_
 ·rintro i x J H' hi ⟨rfl,o,rfl⟩ N hN;rw[Ha]at hi;obtain⟨a,ha,rfl⟩:=Hh.mp hi;obtain⟨it,e,di,pi,c1,c2⟩:=h2.get ha;simp[↓Ob c1];refine⟨pi,it.c,rfl,c2,?_⟩;simp;refine hN _ _ ⟨rfl,some (.ref a),?_⟩;have ht:S.items.take (i+1)=S.items.take i++[it]:=by rw[Hz,e];rfl
  rw[A4D,B0D,ht];dsimp[List.any_append,Ig,List.any_nil,Bool.or_false]
 ·rintro J H' ⟨rfl,o,rfl⟩;simp[↓Ob st.cell];rw[A86];rw[h2.1,Ho];exact q
def A4n(S:PS){k:Nat}(h:k<8):Me (B2 S) k=if S.sf k then some (S.wv k) else none:=by simp[Me,B2,B1f,h]
def A9q(S:PS)(ok:OkS S):Mj (B2 S)=Ky (A4E S):=by
 unfold Mj;refine A3d λk hk=>?_;rw[A4n S hk];unfold A4E
 cases hs:S.sf k with
 |true=>simp
 |false=>
  dsimp[Jb,if_false,Option.isNone_none,Kd,Bool.not_false,Bool.and_true];show(S.items.map (G8 S.day)).any _=_;rw[List.any_map];have hh: ∀(l:List PI),(∀i∈l,OkI S i)->(l.any ((λi:Kcp0.Item=>Mz i&&match i.c with|.times e _=>Lr k e|.if_ b _ _=>Ln k b|.when_ _ b _=>Ln k b|_=>false)∘G8 S.day))=l.any λi=>nmM i.c k:=by
   intro l
   induction l with
   |nil=>intro _;rfl
   |cons i l ih=>
    intro hl;rw[Ig,Ig,ih λj hj=>hl j (Gh _ hj)];congr 1;have oi:=hl i (by simp)
    cases hc:i.c with
    |when_ d c a=>
     dsimp[Function.comp,G8,hc,Mz,nmM];by_cases hlk:i.lk=S.day
     ·have:=(oi.lw hlk).2;dsimp[G4,ne_eq,decide_not,Bool.not_eq_false',Gb]at this;have:=N4.mp this k hk;rw[hc,hs]at this;simp[nmM]at this;simp[hlk,this]
     ·simp[hlk]
    |_=>simp[Function.comp,G8,hc,Mz,nmM]
  exact hh S.items ok.itI
def B3x:T.A6F.C T base 3 (B41 .day):=by refine T.A6F.g T (A7d _) [] (by nomatch A1l T) ?_;obtain⟨d,dx,b,u,D,rfl,hd,ok,q⟩;obtain⟨s,A,hx,st⟩:=hd.st;obtain⟨bs,h3,h4⟩:=hd.bef;obtain⟨us,h5,h6⟩:=hd.und;simp[A7d,↓Ob hx,↓Ob st.cell];refine⟨s,A,D.now,rfl,st,?_⟩;simp[↓Ob hx,↓Ls h3,↓Ls h5,h4.1,h6.1];exact⟨by decide,q.stay hd ok (A5.refl _) (v:=.some_ D.now.day [(Mj (B2 D.now):Int),(D.bef.length:Int),(D.und.length:Int)]) (ans:=[(D.now.day:Int),(Ky (A4E D.now):Int),(D.bef.length:Int),(D.und.length:Int)]) rfl (by simp[Kt,B5];rfl) (by rw[A9q _ ok.now];rfl)⟩
def B0u:T.A3F.C T base 1 (B41 .items):=by
 refine T.A3F.g (N:=["desk","numbers","item"]) T (A3T) [none,none] (λ_ _=>trivial) ?_;obtain⟨d,dx,b,u,D,rfl,hd,ok,q⟩;obtain⟨s,A,hx,st⟩:=hd.st;obtain⟨is,h1,h2⟩:=st.items;have ol:=ok.now.items;simp[A3T,↓Ob hx,↓Ob st.cell,↓Ls h1];refine A09 (F3 (G:=λH'=>H' A.l3=some (.lst (is.map V.ref))) λH' e=>e) (by simp;exact A8c (by rw[h2.1];lia)) (λZ i acc H'=>H'=upd H Z (.lst acc)/\H Z=none/\acc=(D.now.items.take i).map λx=>V.int x.no) (λZ hZ=>⟨rfl,hZ,by simp⟩) ?_ ?_ ?_
 ·rintro Z i acc H' ⟨rfl,hZ,rfl⟩;exact⟨by rw[A4 (A2 h1 hZ)];exact h1,A3,by simp;lia⟩
 ·rintro Z i x acc H' hZ hi ⟨rfl,_,hacc⟩ Y N hY hN;rw[Ha]at hi;obtain⟨a,ha,rfl⟩:=Hh.mp hi;obtain⟨it,e,di,pi,c1,c2⟩:=h2.get ha;have ht:D.now.items.take (i+1)=D.now.items.take i++[it]:=by rw[Hz,e];rfl
  simp[↓N0 (A2 c1 hZ),↓Ob c1];exact hY _ _ A3 ⟨by simp,hZ,by rw[hacc,ht];simp⟩
 ·rintro Z acc H' hZ ⟨rfl,_,rfl⟩;rw[Gz,h2.1,Ho];simp;refine⟨by decide,λp hp=>?_⟩;have n2:Z≠p:=A2 A3 hp;simp[↓Lsn n2];refine⟨big (by lia),?_⟩;refine q.stay hd ok ((A5.new hZ).trans (A5.new hp)) (v:=.some_ D.now.items.length (Lj (D.now.items.map PI.no))) (ans:=(D.now.items.length:Int)::Lj (D.now.items.map PI.no)) (by simp[Lj]) ?_ rfl;simp[Kt,B5,B2];rfl
def B2f:T.A41.C T base 2 (A9Z .deal):=by
 refine T.A41.g (N:=["desk","k","deal","pending","item"]) T (A17 _) [none,none,none] (by nomatch A10 T) ?_;obtain⟨d,dx,b,u,D,n,rfl,hd,ok,q⟩;obtain⟨s,A,hx,st⟩:=hd.st;obtain⟨ds,h1,h2⟩:=st.deals;obtain⟨is,j1,j2⟩:=st.items;have ol:=ok.now.items;by_cases hn:n<D.now.deals.length
 ·generalize hc:D.now.deals[n]=dl;have e:D.now.deals[n]?=some dl:=by simp[hn,hc]
  obtain⟨a,ha,ddx,wv,dc,_⟩:=h2.at e;simp[A17,O1,↓Ob hx,↓Ob st.cell,↓Ls h1,h2.1,hn];refine gI (i:=.ref a) (by rw[M4];simp[ha]) ?_;simp[↓Ob hx,↓Ob st.cell,↓Ls j1];refine A09 (F3 (G:=λH'=>H' A.l3=some (.lst (is.map V.ref))) λH' e=>e) (by simp;exact A8c (by rw[j2.1];lia)) (λZ i acc H'=>H'=upd H Z (.lst acc)/\H Z=none/\acc.length=((D.now.items.take i).filter λx=>x.deal==n).length) (λZ hZ=>⟨rfl,hZ,by simp⟩) ?_ ?_ ?_
  ·rintro Z i acc H' ⟨rfl,hZ,hl⟩;refine⟨by rw[A4 (A2 j1 hZ)];exact j1,A3,?_⟩;have:=Kn (λx:PI=>x.deal==n) (D.now.items.take i);have:=List.length_take_le i D.now.items
   lia
  ·rintro Z i x acc H' hZ hi ⟨rfl,_,hl⟩ Y N hY hN;rw[Ha]at hi;obtain⟨a,ha,rfl⟩:=Hh.mp hi;obtain⟨it,e,di,pi,c1,c2⟩:=j2.get ha;have ht:D.now.items.take (i+1)=D.now.items.take i++[it]:=by rw[Hz,e];rfl
   simp[↓N0 (A2 c1 hZ),↓Ob c1];split
   ·rename_i h;have h':it.deal=n:=by lia
    exact hY _ _ A3 ⟨by simp,hZ,by rw[ht];simp[h',hl]⟩
   ·rename_i h;have h':it.deal≠n:=by lia
    exact hN _ ⟨rfl,hZ,by rw[ht];simp[h',hl]⟩
  ·rintro Z acc H' hZ ⟨rfl,_,hl⟩;rw[Gz,j2.1,Ho]at hl;simp[↓N0 (A2 dc hZ),↓Ob dc];have P3: ∀z,z=(if dl.over then(1:Int) else 0)->(5:Nat)<=sizeLine/\∀p,upd H Z (.lst acc) p=none->Q (.ref p) (upd (upd H Z (.lst acc)) p (.lst [.int z,.int dl.holder,.int dl.other,.int dl.day,.int acc.length])):=λz hz=>⟨by decide,q.stay hd ok (A5.new hZ) (v:=.some_ z [(dl.holder:Int),(dl.other:Int),(dl.day:Int),(acc.length:Int)]) (ans:=[z,(dl.holder:Int),(dl.other:Int),(dl.day:Int),(acc.length:Int)]) rfl (by simp[Kt,B5,B2,e,hz,hl];rw[List.filter_map];simp;rfl) rfl⟩
   split
   ·rename_i h;exact P3 1 (by simp[h])
   ·rename_i h;exact P3 0 (by simp[h])
 ·simp[A17,O1,↓Ob hx,↓Ob st.cell,↓Ls h1,h2.1,hn];exact⟨by decide,q.stay hd ok (A5.refl _) (v:=.num (-2)) (ans:=[-2]) rfl (by simp[Kt,B5,B2,He (Ia hn)]) rfl⟩
noncomputable def G3(sf:Nat->Bool):Exp->Bool
 |.num _=>true
 |.seen k=>sf k
 |.add a b=>G3 sf a&&G3 sf b
 |.sub a b=>G3 sf a&&G3 sf b
 |.mul a b=>G3 sf a&&G3 sf b
noncomputable def M3(sf:Nat->Bool):Cond->Bool
 |.le a b=>G3 sf a&&G3 sf b
 |.lt a b=>G3 sf a&&G3 sf b
 |.not_ a=>M3 sf a
 |.all_ a b=>M3 sf a&&M3 sf b
 |.some_ a b=>M3 sf a&&M3 sf b
theorem K6(sf:Nat->Bool): ∀e,O3 e=true->(G3 sf e=true↔∀k,k<8->Lr k e=true->sf k=true)
 |.num z,_=>by simp[G3,Lr]
 |.seen k,h=>by simp[O3]at h;simp[G3,Lr];exact⟨λh2 j hj e=>e▸h2,λh2=>h2 k h rfl⟩
 |.add a b,h=>by simp[O3]at h;dsimp[G3,Ga,K6 sf a h.1,K6 sf b h.2,Lr,Ht];exact⟨λ⟨x,y⟩ k hk e=>e.elim (x k hk) (y k hk),λx=>⟨λk hk e=>x k hk (.inl e),λk hk e=>x k hk (.inr e)⟩⟩
 |.sub a b,h=>by simp[O3]at h;dsimp[G3,Ga,K6 sf a h.1,K6 sf b h.2,Lr,Ht];exact⟨λ⟨x,y⟩ k hk e=>e.elim (x k hk) (y k hk),λx=>⟨λk hk e=>x k hk (.inl e),λk hk e=>x k hk (.inr e)⟩⟩
 |.mul a b,h=>by simp[O3]at h;dsimp[G3,Ga,K6 sf a h.1,K6 sf b h.2,Lr,Ht];exact⟨λ⟨x,y⟩ k hk e=>e.elim (x k hk) (y k hk),λx=>⟨λk hk e=>x k hk (.inl e),λk hk e=>x k hk (.inr e)⟩⟩
theorem R3(sf:Nat->Bool): ∀e,V5 e=true->(M3 sf e=true↔∀k,k<8->Ln k e=true->sf k=true)
 |.le a b,h=>by simp[V5]at h;dsimp[M3,Ga,K6 sf a h.1,K6 sf b h.2,Ln,Ht];exact⟨λ⟨x,y⟩ k hk e=>e.elim (x k hk) (y k hk),λx=>⟨λk hk e=>x k hk (.inl e),λk hk e=>x k hk (.inr e)⟩⟩
 |.lt a b,h=>by simp[V5]at h;dsimp[M3,Ga,K6 sf a h.1,K6 sf b h.2,Ln,Ht];exact⟨λ⟨x,y⟩ k hk e=>e.elim (x k hk) (y k hk),λx=>⟨λk hk e=>x k hk (.inl e),λk hk e=>x k hk (.inr e)⟩⟩
 |.not_ a,h=>by simp[V5]at h;dsimp[M3,R3 sf a h,Ln]
 |.all_ a b,h=>by simp[V5]at h;dsimp[M3,Ga,R3 sf a h.1,R3 sf b h.2,Ln,Ht];exact⟨λ⟨x,y⟩ k hk e=>e.elim (x k hk) (y k hk),λx=>⟨λk hk e=>x k hk (.inl e),λk hk e=>x k hk (.inr e)⟩⟩
 |.some_ a b,h=>by simp[V5]at h;dsimp[M3,Ga,R3 sf a h.1,R3 sf b h.2,Ln,Ht];exact⟨λ⟨x,y⟩ k hk e=>e.elim (x k hk) (y k hk),λx=>⟨λk hk e=>x k hk (.inl e),λk hk e=>x k hk (.inr e)⟩⟩
theorem J6{L:Nat->Option Int}{sf:Nat->Bool}{wv:Nat->Int}(hL: ∀k,k<8->L k=bif sf k then some (wv k) else none): ∀e,O3 e=true->Lx L e=bif G3 sf e then some (Z0 wv e) else none
 |.num z,_=>rfl
 |.seen k,h=>by simp[O3]at h;dsimp[Lx,G3,Z0,hL k h]
 |.add a b,h=>by simp[O3]at h;dsimp[Lx,G3,Z0,J6 hL a h.1,J6 hL b h.2];cases G3 sf a<;>cases G3 sf b<;>rfl
 |.sub a b,h=>by simp[O3]at h;dsimp[Lx,G3,Z0,J6 hL a h.1,J6 hL b h.2];cases G3 sf a<;>cases G3 sf b<;>rfl
 |.mul a b,h=>by simp[O3]at h;dsimp[Lx,G3,Z0,J6 hL a h.1,J6 hL b h.2];cases G3 sf a<;>cases G3 sf b<;>rfl
theorem T5{L:Nat->Option Int}{sf:Nat->Bool}{wv:Nat->Int}(hL: ∀k,k<8->L k=bif sf k then some (wv k) else none): ∀e,V5 e=true->Lp L e=bif M3 sf e then some (evB wv e) else none
 |.le a b,h=>by simp[V5]at h;dsimp[Lp,M3,evB,J6 hL a h.1,J6 hL b h.2];cases G3 sf a<;>cases G3 sf b<;>rfl
 |.lt a b,h=>by simp[V5]at h;dsimp[Lp,M3,evB,J6 hL a h.1,J6 hL b h.2];cases G3 sf a<;>cases G3 sf b<;>rfl
 |.not_ a,h=>by simp[V5]at h;dsimp[Lp,M3,evB,T5 hL a h];cases M3 sf a<;>rfl
 |.all_ a b,h=>by simp[V5]at h;dsimp[Lp,M3,evB,T5 hL a h.1,T5 hL b h.2];cases M3 sf a<;>cases M3 sf b<;>rfl
 |.some_ a b,h=>by simp[V5]at h;dsimp[Lp,M3,evB,T5 hL a h.1,T5 hL b h.2];cases M3 sf a<;>cases M3 sf b<;>rfl
def V6(S:PS)(c:Con):G4 S c=false↔∀k,k<8->nmM c k=true->S.sf k=true:=by
 dsimp[G4,ne_eq,decide_not,Bool.not_eq_false',Gb];rw[N4];refine⟨λh k hk e=>?_,λh k hk=>?_⟩
 ·have:=h k hk;rw[e]at this;simpa using this
 ·cases e:nmM c k with
  |false=>rfl
  |true=>rw[h k hk e];rfl
def B0P{S:PS}{e:Exp}{a:Con}(h:O3 e=true):G4 S (.times e a)=!G3 S.sf e:=by
 cases hs:G3 S.sf e with
 |true=>rw[Bool.not_true,V6];exact(K6 S.sf e h).mp hs
 |false=>
  rw[Bool.not_false]
  cases hw:G4 S (.times e a) with
  |true=>rfl
  |false=>rw[V6]at hw;rw[(K6 S.sf e h).mpr hw]at hs;cases hs
def B6j{S:PS}{e:Cond}{a b:Con}(h:V5 e=true):G4 S (.if_ e a b)=!M3 S.sf e:=by
 cases hs:M3 S.sf e with
 |true=>rw[Bool.not_true,V6];exact(R3 S.sf e h).mp hs
 |false=>
  rw[Bool.not_false]
  cases hw:G4 S (.if_ e a b) with
  |true=>rfl
  |false=>rw[V6]at hw;rw[(R3 S.sf e h).mpr hw]at hs;cases hs
def B2G{S:PS}{d:Nat}{e:Cond}{a:Con}(h:V5 e=true):G4 S (.when_ d e a)=!M3 S.sf e:=by
 cases hs:M3 S.sf e with
 |true=>rw[Bool.not_true,V6];exact(R3 S.sf e h).mp hs
 |false=>
  rw[Bool.not_false]
  cases hw:G4 S (.when_ d e a) with
  |true=>rfl
  |false=>rw[V6]at hw;rw[(R3 S.sf e h).mpr hw]at hs;cases hs
theorem A6v(i:Kcp0.Item): ∀l,(Ma i l).Perm (i::l)
 |[]=>.refl _
 |j::l=>by
  unfold Ma;split
  ·exact .refl _
  ·exact((A6v i l).cons j).trans (.swap ..)
theorem B1H(i:Kcp0.Item): ∀l,l.Pairwise (λa b=>a.no<=b.no)->(Ma i l).Pairwise (λa b=>a.no<=b.no)
 |[],_=>by simp[Ma]
 |j::l,h=>by
  unfold Ma;rw[Ja]at h;split
  ·rename_i hij;rw[Ja];refine⟨λx hx=>?_,Ja.mpr h⟩;rcases Gk.mp hx with rfl|hx
   ·lia
   ·have:=h.1 x hx;lia
  ·rename_i hij;rw[Ja];refine⟨λx hx=>?_,B1H i l h.2⟩;rcases Gk.mp ((A6v i l).mem_iff.mp hx) with rfl|hx
   ·lia
   ·exact h.1 x hx
theorem B1M: ∀(l acc:List Kcp0.Item),acc.Pairwise (λa b=>a.no<=b.no)->(l.foldl (λl i=>Ma i l) acc).Perm (acc++l)/\(l.foldl (λl i=>Ma i l) acc).Pairwise (λa b=>a.no<=b.no)
 |[],acc,h=>by simp;exact h
 |i::l,acc,h=>by obtain⟨h1,h2⟩:=B1M l (Ma i acc) (B1H i acc h);refine⟨h1.trans ?_,h2⟩;exact((A6v i acc).append_right l).trans (List.perm_middle.symm)
theorem A4M: ∀(l1 l2:List Kcp0.Item),l1.Perm l2->l1.Pairwise (λa b=>a.no<=b.no)->l2.Pairwise (λa b=>a.no<b.no)->l1=l2
 |l1,[],h,_,_=>h.eq_nil
 |[],x::l2,h,_,_=>by have:=h.length_eq;simp at this
 |y::l1,x::l2,h,s1,s2=>by
  rw[Ja]at s1 s2;have hy:y∈x::l2:=h.mem_iff.mp (by simp);have hx:x∈y::l1:=h.mem_iff.mpr (by simp);have hle:y.no<=x.no:=by
   rcases Gk.mp hx with rfl|hx
   ·lia
   ·exact s1.1 x hx
  have e:y=x:=by
   rcases Gk.mp hy with e|hy
   ·exact e
   ·have:=s2.1 y hy;lia
  subst e;rw[A4M l1 l2 (List.Perm.cons_inv h) s1.2 s2.2]
def B9u{C:Kcp0.Core}{l:List Kcp0.Item}(h:C.items.Perm l)(s:l.Pairwise λa b=>a.no<b.no):Nb C={C with items:=l}:=by unfold Nb;obtain⟨h1,h2⟩:=B1M C.items [] .nil;rw[A4M _ l (h1.trans (by simpa using h)) h2 s]
structure QOk(S:PS)(i:PI):Prop where
 c:okS i.c
 lk:i.lk<=S.day
 lw:i.lk=S.day->(∃d b a,i.c=.when_ d b a)/\G4 S i.c=false
def U2(S:PS)(its:List Kcp0.Item):Kcp0.Core:={B2 S with items:=its}
def T0{c c':Con}(h:okS c)(hw:E5 c'=true)(hp:(A9 c').length<=(A9 c).length):okS c':=⟨hw,Hc hp h.2⟩
def A0v(d:Nat): ¬((-1:Int)=(d:Int)):=by lia
def QOk.mk1{S:PS}{i:PI}{c:Con}(h:okS c):QOk S (i.had c):=⟨h,by show(-1:Int)<=_;lia,λe=>Gn e (A0v _)⟩
def B4G{S:PS}{i:PI}{js:List PI}(h:QOk S i)(e:B7 S i=some js): ∀j∈js,j.no=0/\QOk S j:=by
 have ho:=h.c;have hw:=ho.1;unfold B7 at e
 cases hc:i.c with
 |nothing=>rw[hc]at e;simp at e;subst e;simp
 |one u=>rw[hc]at e;simp at e;subst e;simp
 |both a b=>
  rw[hc]at e ho hw;simp at e;subst e;simp[E5]at hw;intro j hj;simp at hj;rcases hj with rfl|rfl
  ·exact⟨rfl,.mk1 (T0 ho hw.1 (by simp[A9]<;>lia))⟩
  ·exact⟨rfl,.mk1 (T0 ho hw.2 (by simp[A9]<;>lia))⟩
 |or_ a b=>rw[hc]at e;simp at e
 |turn a=>rw[hc]at e ho hw;simp at e;subst e;simp[E5]at hw;intro j hj;simp at hj;subst hj;have:=QOk.mk1 (S:=S) (i:=i) (T0 ho hw (by simp[A9]));exact⟨rfl,⟨this.c,this.lk,this.lw⟩⟩
 |times x a=>rw[hc]at e ho hw;simp at e;obtain⟨_,e⟩:=e;subst e;simp[E5]at hw;intro j hj;simp at hj;subst hj;have:=QOk.mk1 (S:=S) (i:=i) (T0 ho hw.2 (by simp[A9]<;>lia));exact⟨rfl,⟨this.c,this.lk,this.lw⟩⟩
 |if_ b x y=>
  rw[hc]at e ho hw;simp at e;obtain⟨_,e⟩:=e;subst e;simp[E5]at hw;intro j hj;simp at hj;subst hj;refine⟨rfl,.mk1 ?_⟩;split
  ·exact T0 ho hw.1.2 (by simp[A9]<;>lia)
  ·exact T0 ho hw.2 (by simp[A9]<;>lia)
 |at_ d a=>
  rw[hc]at e ho hw;simp at e;simp[E5]at hw;split at e
  ·simp at e;subst e;simp
  ·split at e
   ·simp at e;subst e;intro j hj;simp at hj;subst hj;exact⟨rfl,.mk1 (T0 ho hw.2 (by simp[A9]<;>lia))⟩
   ·cases e
 |when_ d b a=>
  rw[hc]at e ho hw;simp at e;simp[E5]at hw;split at e
  ·simp at e;subst e;simp
  ·split at e
   ·simp at e;subst e;intro j hj;simp at hj;subst hj;exact⟨rfl,.mk1 (T0 ho hw.2 (by simp[A9]<;>lia))⟩
   ·cases e
 |any_ d a=>rw[hc]at e;simp at e;obtain⟨_,e⟩:=e;subst e;simp
def B4g{S:PS}{i:PI}{no:Nat}(h:QOk S i)(hk:i.k.natAbs<=1000000000000)(h1:1<=no)(h2:no<=S.numb):OkI S (F5 S i no):=by
 refine⟨h.c,hk,⟨h1,h2⟩,?_,λe=>?_⟩
 ·dsimp[F5];split<;>lia
 ·dsimp[F5]at e;split at e
  ·rename_i hh;simp at hh;refine⟨?_,hh.2⟩;have:=hh.1;show ∃d b a,i.c=_;cases hc:i.c<;>rw[hc]at this<;>simp[A0A]at this;exact⟨_,_,_,rfl⟩
  ·lia
structure WI(N:Nat)(S:PS)(q st co:List PI):Prop where
 srt:(S.items++st++co).Pairwise (λa b=>a.no<b.no)
 lo: ∀i∈S.items++st,i.no<=N
 hi: ∀i∈co,N<i.no
 bd: ∀i∈S.items++st++co,OkI S i
 nb:N<=S.numb
 nq: ∀i∈q,i.no<=N
 gt: ∀i∈q,i.no≠0->∀j∈S.items++st,j.no<i.no
 qs:q.Pairwise (λa b=>a.no≠0->b.no≠0->a.no<b.no)
 qk: ∀i∈q,QOk S i
 py: ∀p∈S.pays,p.unit<4
structure WR(S S':PS)(z:Nat):Prop where
 srt:S'.items.Pairwise (λa b=>a.no<b.no)
 bd: ∀i∈S'.items,OkI S' i
 py: ∀p∈S'.pays,p.unit<4
 n:S'.n=S.n
 day:S'.day=S.day
 shelf:S'.shelf=S.shelf
 deals:S'.deals=S.deals
 sf:S'.sf=S.sf
 wv:S'.wv=S.wv
 sz:F1 S'.items<=z
def B7v{S:PS}{i:PI}(h:okS i.c): ∀p∈L9 S i,p.unit<4:=by
 intro p hp;unfold L9 at hp
 cases hc:i.c with
 |one u=>
  rw[hc]at hp;have:=h.1;rw[hc]at this;simp[E5]at this;simp at hp;split at hp
  ·simp at hp;subst hp;exact this
  ·split at hp
   ·simp at hp;subst hp;exact this
   ·simp at hp
 |_=>rw[hc]at hp;simp at hp
theorem OkI.numb{S:PS}{i:PI}{m:Nat}(h:OkI S i)(hm:S.numb<=m):OkI {S with numb:=m} i:=⟨h.c,h.k,⟨h.no.1,Hc h.no.2 hm⟩,h.lk,h.lw⟩
theorem OkI.pays{S:PS}{i:PI}{ps:List Kcp0.Pay}(h:OkI S i):OkI {S with pays:=ps} i:=⟨h.c,h.k,h.no,h.lk,h.lw⟩
theorem QOk.numb{S:PS}{i:PI}{m:Nat}(h:QOk S i):QOk {S with numb:=m} i:=⟨h.c,h.lk,h.lw⟩
theorem QOk.pays{S:PS}{i:PI}{ps:List Kcp0.Pay}(h:QOk S i):QOk {S with pays:=ps} i:=⟨h.c,h.lk,h.lw⟩
def B3Z{S:Type}{R:S->S->Prop}{l:List S}{x:S}(h:l.Pairwise R)(hx: ∀y∈l,R y x):(l++[x]).Pairwise R:=by rw[List.pairwise_append];exact⟨h,by simp,λa ha b hb=>by rw[Gq.mp hb];exact hx a ha⟩
theorem B60{S:Type}{R:S->S->Prop}: ∀{l:List S},(∀a∈l,∀b,R a b)->l.Pairwise R
 |[],_=>.nil
 |a::l,h=>.cons (λb _=>h a (by simp) b) (B60 λx hx b=>h x (Gh _ hx) b)
theorem A5W{N:Nat}: ∀(f:Nat)(S:PS)(q st co:List PI)(S':PS),WI N S q st co->wkP f S q st co=some S'->WR S S' (F1 S.items+F1 st+F1 co+F1 q)
 |f,S,[],st,co,S',h,e=>by
  have e:some {S with items:=S.items++st++co}=some S':=by rw[<-e];cases f<;>rfl
  cases e;exact⟨h.srt,λi hi=>by have:=h.bd i hi;exact⟨this.c,this.k,this.no,this.lk,this.lw⟩,h.py,rfl,rfl,rfl,rfl,rfl,rfl,by show F1 (S.items++st++co)<=_;rw[Q9,Q9];lia⟩
 |0,S,i::q,st,co,S',h,e=>by cases e
 |f+1,S,i::q,st,co,S',h,e=>by
  unfold wkP at e;split at e
  ·cases e
  ·rename_i hk;have hk:i.k.natAbs<=1000000000000:=by lia
   have qi:=h.qk i (by simp);have qq: ∀j∈q,QOk S j:=λj hj=>h.qk j (Gh _ hj);have qs:=Ja.mp h.qs;have nq: ∀j∈q,j.no<=N:=λj hj=>h.nq j (Gh _ hj);have gt: ∀j∈q,j.no≠0->∀x∈S.items++st,x.no<j.no:=λj hj=>h.gt j (Gh _ hj);rw[J4]
   cases hc:B7 S i with
   |some js=>
    rw[hc]at e;simp only at e;have cq:=B4G qi hc;have sz:=(A1X qi.c.okC hc).2;have w:WI N {S with pays:=S.pays++L9 S i} (js++q) st co:=by
     refine⟨h.srt,h.lo,h.hi,λj hj=>(h.bd j hj).pays,h.nb,λj hj=>?_,λj hj hn=>?_,?_,λj hj=>?_,λp hp=>?_⟩
     ·rcases Gp.mp hj with hj|hj
      ·rw[(cq j hj).1];lia
      ·exact nq j hj
     ·rcases Gp.mp hj with hj|hj
      ·exact Gn (cq j hj).1 hn
      ·exact gt j hj hn
     ·rw[List.pairwise_append];exact⟨B60 λa ha b h1=>Gn (cq a ha).1 h1,qs.2,λa ha b hb h1=>Gn (cq a ha).1 h1⟩
     ·rcases Gp.mp hj with hj|hj
      ·exact(cq j hj).2.pays
      ·exact(qq j hj).pays
     ·rcases Gp.mp hp with hp|hp
      ·exact h.py p hp
      ·exact B7v qi.c p hp
    have r:=A5W f _ _ _ _ _ w e;exact⟨r.srt,r.bd,r.py,r.n,r.day,r.shelf,r.deals,r.sf,r.wv,by have:=r.sz;rw[Q9]at this;simp only at this;lia⟩
   |none=>
    rw[hc]at e;simp only at e;split at e
    ·rename_i hno;have hi1:=h.nq i (by simp);have ok:=B4g qi hk hno (Hc hi1 h.nb);have w:WI N S q (st++[F5 S i i.no]) co:=by
      refine⟨?_,λj hj=>?_,h.hi,λj hj=>?_,h.nb,nq,λj hj hn x hx=>?_,qs.2,qq,h.py⟩
      ·have h1:=h.srt;rw[List.pairwise_append]at h1 ⊢;refine⟨?_,h1.2.1,λa ha b hb=>?_⟩
       ·rw[<-Hq];exact B3Z h1.1 λy hy=>h.gt i (by simp) (by lia) y hy
       ·rw[<-Hq]at ha;rcases Gp.mp ha with ha|ha
        ·exact h1.2.2 a ha b hb
        ·rw[Gq.mp ha];have:=h.hi b hb;show i.no<b.no
         lia
      ·rw[<-Hq]at hj;rcases Gp.mp hj with hj|hj
       ·exact h.lo j hj
       ·rw[Gq.mp hj];exact hi1
      ·rw[<-Hq,Hq]at hj;rcases Gp.mp hj with hj|hj
       ·exact h.bd j (List.mem_append_left _ hj)
       ·rcases Gp.mp hj with hj|hj
        ·rw[Gq.mp hj];exact ok
        ·exact h.bd j (Hy _ hj)
      ·rw[<-Hq]at hx;rcases Gp.mp hx with hx|hx
       ·exact gt j hj hn x hx
       ·rw[Gq.mp hx];exact qs.1 j hj (by lia) hn
     have r:=A5W f _ _ _ _ _ w e;have hz:F1 (st++[F5 S i i.no])=F1 st+Ku i.c:=by rw[Q9];simp[F1,F5,PI.had]
     exact⟨r.srt,r.bd,r.py,r.n,r.day,r.shelf,r.deals,r.sf,r.wv,by have:=r.sz;rw[hz]at this;lia⟩
    ·rename_i hno;have nb:=h.nb;have ok:OkI {S with numb:=S.numb+1} (F5 S i (S.numb+1)):=by have:=B4g (S:={S with numb:=S.numb+1}) (no:=S.numb+1) qi.numb hk (by lia) (Gi _);exact this
     have w:WI N {S with numb:=S.numb+1} q st (co++[F5 S i (S.numb+1)]):=by
      refine⟨?_,h.lo,λj hj=>?_,λj hj=>?_,by show N<=S.numb+1;lia,nq,gt,qs.2,λj hj=>(qq j hj).numb,h.py⟩
      ·show(S.items++st++(co++[F5 S i (S.numb+1)])).Pairwise _;rw[<-Hq];exact B3Z h.srt λy hy=>by
        have:=(h.bd y hy).no.2;show y.no<S.numb+1
        lia
      ·rcases Gp.mp hj with hj|hj
       ·exact h.hi j hj
       ·rw[Gq.mp hj];show N<S.numb+1;lia
      ·have hj:j∈S.items++st++(co++[F5 S i (S.numb+1)]):=hj;rw[<-Hq]at hj;rcases Gp.mp hj with hj|hj
       ·exact(h.bd j hj).numb (by lia)
       ·rw[Gq.mp hj];exact ok
     have r:=A5W f _ _ _ _ _ w e;have hz:F1 (co++[F5 S i (S.numb+1)])=F1 co+Ku i.c:=by rw[Q9];simp[F1,F5,PI.had]
     exact⟨r.srt,r.bd,r.py,r.n,r.day,r.shelf,r.deals,r.sf,r.wv,by have:=r.sz;rw[hz]at this;simp only at this;lia⟩
inductive B0H:Option PS->Option Kcp0.Core->Prop
 |no:B0H none none
 |yes{S:PS}{its:List Kcp0.Item}(h:its.Perm (S.items.map (G8 S.day))):B0H (some S) (some (U2 S its))
def B3a(S:PS)(its:List Kcp0.Item): ∀k,k<8->Me (U2 S its) k=bif S.sf k then some (S.wv k) else none:=λk hk=>by have:=A4n S hk;show Me (B2 S) k=_;rw[this];cases S.sf k<;>rfl
def A2h{day:Nat}{i:PI}{c:Con}(h:i.lk≠day):G8 day (i.had c)={G8 day i with no:=0,c:=c}:=by simp[G8,PI.had,A0v,h]
def C0h{S:PS}{i:PI}(no:Nat):decide ((F5 S i no).lk=(S.day:Int))=(A0A i.c&&!G4 S i.c):=by
 cases h:(A0A i.c&&!G4 S i.c) with
 |true=>exact Hv (by show(if _ then _ else _)=_;rw[Gf h])
 |false=>exact Hk (by show ¬(if _ then _ else _)=_;rw[Gd (by rw[h];decide)];exact A0v _)
def A3p{S:PS}{i:PI}(no:Nat):G8 S.day (F5 S i no)=⟨no,i.deal,i.holder,i.other,i.k,i.c,A0A i.c&&!G4 S i.c⟩:=by rw[<-C0h no];rfl
def B7g{S:Type}{a:List S}{x:S}{b c:List S}(h:a.Perm (b++c)):(a++[x]).Perm (b++[x]++c):=by refine(List.perm_append_comm (l₁:=a) (l₂:=[x])).trans ?_;refine(h.cons x).trans ?_;rw[Hq];exact List.perm_middle.symm
theorem sim: ∀(f g:Nat)(S:PS)(q st co:List PI)(its:List Kcp0.Item),F1 q<=f->F1 q<=g->(∀i∈q,QOk S i)->(∀i∈q,i.k.natAbs<=1000000000000)->its.Perm ((S.items++st++co).map (G8 S.day))->
  B0H (wkP f S q st co) (Mb g (U2 S its) (q.map (G8 S.day)))
 |f,g,S,[],st,co,its,_,_,_,_,hp=>by
  have e1:wkP f S [] st co=some {S with items:=S.items++st++co}:=by cases f<;>rfl
  have e2:Mb g (U2 S its) ([].map (G8 S.day))=some (U2 {S with items:=S.items++st++co} its):=by cases g<;>rfl
  rw[e1,e2];exact .yes hp
 |0,g,S,i::q,st,co,its,h,_,_,_,_=>by rw[J4]at h;have:=P6 i.c;lia
 |f+1,0,S,i::q,st,co,its,_,h,_,_,_=>by rw[J4]at h;have:=P6 i.c;lia
 |f+1,g+1,S,i::q,st,co,its,h1,h2,hq,hk,hp=>by
  rw[J4]at h1 h2;have hsp:=P6 i.c;have qi:=hq i (by simp);have ki:=hk i (by simp);have qq: ∀j∈q,QOk S j:=λj hj=>hq j (Gh _ hj);have kq: ∀j∈q,j.k.natAbs<=1000000000000:=λj hj=>hk j (Gh _ hj);have wf:=qi.c.1;have ok:=qi.c.okC;unfold wkP;rw[Gd (by lia),Gm];unfold Mb;have notw:(∀d b a,i.c≠ .when_ d b a)->i.lk≠S.day:=λh e=>by obtain⟨⟨d,b,a,e⟩,_⟩:=qi.lw e;exact h d b a e
  have stay: ∀i'':Kcp0.Item,i''=G8 S.day (F5 S i i.no)->B0H (if 0<i.no then wkP f S q (st++[F5 S i i.no]) co else wkP f {S with numb:=S.numb+1} q st (co++[F5 S i (S.numb+1)])) (Mb g (Ml (U2 S its) i'') (q.map (G8 S.day))):=by
   rintro i'' rfl;split
   ·rename_i hno;have e:Ml (U2 S its) (G8 S.day (F5 S i i.no))=U2 S (its++[G8 S.day (F5 S i i.no)]):=by unfold Ml;rw[Gd (by show i.no≠0;lia)];rfl
    rw[e];refine sim f g S q _ co _ (by lia) (by lia) qq kq ?_;have:=B7g (x:=G8 S.day (F5 S i i.no)) (b:=(S.items++st).map (G8 S.day)) (c:=co.map (G8 S.day)) (by simpa using hp);simpa using this
   ·rename_i hno;have e:Ml (U2 S its) (G8 S.day (F5 S i i.no))=U2 {S with numb:=S.numb+1} (its++[G8 S.day (F5 S i (S.numb+1))]):=by unfold Ml;rw[Gf (by show i.no=0;lia)];rfl
    rw[e];refine sim f g {S with numb:=S.numb+1} q st _ _ (by lia) (by lia) (λj hj=>(qq j hj).numb) kq ?_;have:=hp.append_right [G8 S.day (F5 S i (S.numb+1))];simpa using this
  have kn: ∀i'':Kcp0.Item,(∀d b a,i.c≠ .when_ d b a)->i''=G8 S.day i->i''=G8 S.day (F5 S i i.no):=λi'' hw e=>by
   rw[e,A3p];have:A0A i.c=false:=by cases hc:i.c<;>first|rfl|exact Gn hc (hw _ _ _)
   simp[G8,this,notw hw]
  have come: ∀js,B7 S i=some js->L9 S i=[]->(∀j∈js,j.k.natAbs<=1000000000000)->B0H (wkP f {S with pays:=S.pays++L9 S i} (js++q) st co) (Mb g (U2 S its) (js.map (G8 S.day)++q.map (G8 S.day))):=by intro js hc hpy hkj;rw[hpy,Hw,<-Ix];have sz:=(A1X ok hc).2;have cq:=B4G qi hc;exact sim f g S (js++q) st co its (by rw[Q9];lia) (by rw[Q9];lia) (λj hj=>(Gp.mp hj).elim (λh=>(cq j h).2) (qq j)) (λj hj=>(Gp.mp hj).elim (hkj j) (kq j)) hp
  have hic:(G8 S.day i).c=i.c:=rfl;have hday:(U2 S its).day=S.day:=rfl
  cases hc:i.c with
  |nothing=>
   have e:B7 S i=some []:=by unfold B7;rw[hc]
   have p:L9 S i=[]:=by unfold L9;rw[hc]
   rw[hic,hc,e];exact come [] e p (by simp)
  |one u=>
   have e:B7 S i=some []:=by unfold B7;rw[hc]
   rw[hic,hc,e];dsimp[Iq];have hs:F1 q<=f:=by lia
   have hg:F1 q<=g:=by lia
   have p:L9 S i=if 0<i.k then[⟨S.day,i.deal,i.other,i.holder,u,i.k.toNat⟩] else if i.k<0 then[⟨S.day,i.deal,i.holder,i.other,u,(-i.k).toNat⟩] else[]:=by unfold L9;rw[hc]
   have go: ∀ps,L9 S i=ps->B0H (wkP f {S with pays:=S.pays++L9 S i} q st co) (Mb g {U2 S its with pays:=S.pays++ps} (q.map (G8 S.day))):=λps e=>by rw[e];exact sim f g {S with pays:=S.pays++ps} q st co its hs hg (λj hj=>(qq j hj).pays) kq hp
   show B0H _ (if i.k=0 then _ else _);by_cases h0:i.k=0
   ·rw[Gf h0];have:=go [] (by rw[p,Gd (by lia),Gd (by lia)]);rw[Hw]at this;exact this
   ·rw[Gd h0];by_cases h1:0<i.k
    ·have:=go [⟨S.day,i.deal,i.other,i.holder,u,i.k.toNat⟩] (by rw[p,Gf h1]);have e3:(if 0<(G8 S.day i).k then(⟨(U2 S its).day,(G8 S.day i).deal,(G8 S.day i).other,(G8 S.day i).holder,u,(G8 S.day i).k.toNat⟩:Kcp0.Pay) else⟨(U2 S its).day,(G8 S.day i).deal,(G8 S.day i).holder,(G8 S.day i).other,u,(-(G8 S.day i).k).toNat⟩)=⟨S.day,i.deal,i.other,i.holder,u,i.k.toNat⟩:=Gf h1;rw[e3];exact this
    ·have:=go [⟨S.day,i.deal,i.holder,i.other,u,(-i.k).toNat⟩] (by rw[p,Gd h1,Gf (by lia)]);have e3:(if 0<(G8 S.day i).k then(⟨(U2 S its).day,(G8 S.day i).deal,(G8 S.day i).other,(G8 S.day i).holder,u,(G8 S.day i).k.toNat⟩:Kcp0.Pay) else⟨(U2 S its).day,(G8 S.day i).deal,(G8 S.day i).holder,(G8 S.day i).other,u,(-(G8 S.day i).k).toNat⟩)=⟨S.day,i.deal,i.holder,i.other,u,(-i.k).toNat⟩:=Gd h1;rw[e3];exact this
  |both a b=>
   have e:B7 S i=some [i.had a,i.had b]:=by unfold B7;rw[hc]
   have p:L9 S i=[]:=by unfold L9;rw[hc]
   have nl:=notw (by rw[hc];intro d b a h;cases h);rw[hic,hc,e];have:=come _ e p (by simp[PI.had];exact ki);dsimp[Gm,Ij,A2h nl]at this;exact this
  |or_ a b=>
   have e:B7 S i=none:=by unfold B7;rw[hc]
   rw[hic,hc,e];exact stay _ (kn _ (by rw[hc];intro d b a h;cases h) rfl)
  |turn a=>
   have e:B7 S i=some [{i.had a with holder:=i.other,other:=i.holder}]:=by unfold B7;rw[hc]
   have p:L9 S i=[]:=by unfold L9;rw[hc]
   have nl:=notw (by rw[hc];intro d b a h;cases h);rw[hic,hc,e];have:=come _ e p (by simp[PI.had];exact ki);have e2:G8 S.day {i.had a with holder:=i.other,other:=i.holder}={G8 S.day i with no:=0,c:=a,holder:=i.other,other:=i.holder}:=by simp[G8,PI.had,A0v,nl]
   dsimp[Gm,Ij,e2]at this;exact this
  |times x a=>
   have p:L9 S i=[]:=by unfold L9;rw[hc]
   have nw: ∀d b a,i.c≠ .when_ d b a:=by rw[hc];intro d b a h;cases h
   have nl:=notw nw;rw[hc]at wf;simp[E5]at wf;have hw:=B0P (S:=S) (a:=a) wf.1;have he:=J6 (B3a S its) x wf.1;rw[hic,hc];simp only;rw[he]
   cases hs:G3 S.sf x with
   |false=>
    have e:B7 S i=none:=by unfold B7;rw[hc];simp[hw,hs]
    rw[e];exact stay _ (kn _ nw rfl)
   |true=>
    have e:B7 S i=some [{i.had a with k:=i.k*Z0 S.wv x}]:=by unfold B7;rw[hc];simp[hw,hs]
    rw[e];dsimp[cond_true];have sz:=(A1X ok e).2;by_cases hb:(i.k*Z0 S.wv x).natAbs<=1000000000000
    ·have hb':Lu (i.k*Z0 S.wv x)=false:=by unfold Lu Kcp0.HIGH;simp;lia
     have:=come _ e p (by simpa using hb);have e2:G8 S.day {i.had a with k:=i.k*Z0 S.wv x}={G8 S.day i with no:=0,c:=a,k:=i.k*Z0 S.wv x}:=by simp[G8,PI.had,A0v,nl]
     dsimp[Gm,Ij,e2]at this;show B0H _ (if Lu (i.k*Z0 S.wv x)=true then _ else _);rw[hb',Gd (by decide)];exact this
    ·have hb':Lu (i.k*Z0 S.wv x)=true:=by unfold Lu Kcp0.HIGH;simp;lia
     show B0H _ (if Lu (i.k*Z0 S.wv x)=true then _ else _);rw[hb',Gf rfl];have:wkP f {S with pays:=S.pays++L9 S i} ([{i.had a with k:=i.k*Z0 S.wv x}]++q) st co=none:=by
      have hf:1<=f:=by have:=P6 a;rw[hc]at h1;simp[Ku]at h1;lia
      obtain⟨f',rfl⟩: ∃f',f=f'+1:=⟨f -1,by lia⟩
      show wkP (f'+1) _ (_::q) st co=none;unfold wkP;rw[Gf (by simp only;lia)]
     rw[this];exact .no
  |if_ b x y=>
   have p:L9 S i=[]:=by unfold L9;rw[hc]
   have nw: ∀d b a,i.c≠ .when_ d b a:=by rw[hc];intro d b a h;cases h
   have nl:=notw nw;rw[hc]at wf;simp[E5]at wf;have hw:=B6j (S:=S) (a:=x) (b:=y) wf.1.1;have he:=T5 (B3a S its) b wf.1.1;rw[hic,hc];simp only;rw[he]
   cases hs:M3 S.sf b with
   |false=>
    have e:B7 S i=none:=by unfold B7;rw[hc];simp[hw,hs]
    rw[e];exact stay _ (kn _ nw rfl)
   |true=>
    have e:B7 S i=some [i.had (if evB S.wv b then x else y)]:=by unfold B7;rw[hc];simp[hw,hs]
    rw[e];dsimp[cond_true];have:=come _ e p (by simp[PI.had];exact ki);dsimp[Gm,Ij,A2h nl]at this;exact this
  |at_ d a=>
   have p:L9 S i=[]:=by unfold L9;rw[hc]
   have nw: ∀d b a,i.c≠ .when_ d b a:=by rw[hc];intro d b a h;cases h
   have nl:=notw nw;rw[hic,hc];dsimp[hday];by_cases h3:d=S.day
   ·have e:B7 S i=some [i.had a]:=by unfold B7;rw[hc];simp[h3]
    rw[e,Gf h3];have:=come _ e p (by simp[PI.had];exact ki);dsimp[Gm,Ij,A2h nl]at this;exact this
   ·rw[Gd h3];by_cases h4:d<S.day
    ·have e:B7 S i=some []:=by unfold B7;rw[hc];simp[h4]
     rw[e,Gf h4];exact come [] e p (by simp)
    ·have e:B7 S i=none:=by unfold B7;rw[hc];simp[h4];lia
     rw[e,Gd h4];exact stay _ (kn _ nw rfl)
  |when_ d b a=>
   have p:L9 S i=[]:=by unfold L9;rw[hc]
   rw[hc]at wf;simp[E5]at wf;have hw:=B2G (S:=S) (d:=d) (a:=a) wf.1.2;have he:=T5 (B3a S its) b wf.1.2;rw[hic,hc];dsimp[hday];by_cases h4:d<S.day
   ·have e:B7 S i=some []:=by unfold B7;rw[hc];simp[h4]
    rw[e,Gf h4];exact come [] e p (by simp)
   ·rw[Gd h4];have hwi:A0A i.c=true:=by rw[hc];rfl
    by_cases h5:i.lk=S.day
    ·have hwt:=(qi.lw h5).2;have e:B7 S i=none:=by unfold B7;rw[hc];simp[h4,h5]
     have hL:(G8 S.day i).looked=true:=by simp[G8,h5]
     rw[e];dsimp[hL,if_true];refine stay _ ?_;rw[A3p,hwi,hwt];simp[G8,h5]
    ·have hlt:i.lk<S.day:=by have:=qi.lk;lia
     have hL:(G8 S.day i).looked=false:=by simp[G8,h5]
     dsimp[hL,Jb,if_false];rw[he]
     cases hs:M3 S.sf b with
     |false=>
      have e:B7 S i=none:=by unfold B7;rw[hc];simp[h4,hw,hs]
      rw[e];refine stay _ ?_;rw[A3p,hwi,hc,hw,hs];simp[G8,h5,hc]
     |true=>
      dsimp[cond_true]
      cases hb:evB S.wv b with
      |true=>
       have e:B7 S i=some [i.had a]:=by unfold B7;rw[hc];simp[h4,hw,hs,hb,hlt]
       rw[e];have:=come _ e p (by simp[PI.had];exact ki);have e2:G8 S.day (i.had a)={G8 S.day i with no:=0,c:=a,looked:=false}:=by simp[G8,PI.had,A0v]
       dsimp[Gm,Ij,e2]at this;exact this
      |false=>
       have e:B7 S i=none:=by unfold B7;rw[hc];simp[h4,hb]
       rw[e];refine stay _ ?_;rw[A3p,hwi,hc,hw,hs];simp[G8,hc]
  |any_ d a=>
   have p:L9 S i=[]:=by unfold L9;rw[hc]
   have nw: ∀d b a,i.c≠ .when_ d b a:=by rw[hc];intro d b a h;cases h
   rw[hic,hc];dsimp[hday];by_cases h4:d<S.day
   ·have e:B7 S i=some []:=by unfold B7;rw[hc];simp[h4]
    rw[e,Gf h4];exact come [] e p (by simp)
   ·have e:B7 S i=none:=by unfold B7;rw[hc];simp[h4]
    rw[e,Gd h4];exact stay _ (kn _ nw rfl)
def wkR(S:PS)(q:List PI):Option PS:=(wkP (F1 q) S q [] []).bind λS'=>if S'.items.length<=48/\S'.pays.length<=400 then some S' else none
def B5A(l:List Nat)(a:Nat):l.foldl (λa b=>a+b) a=a+l.sum:=by
 induction l generalizing a with
 |nil=>simp
 |cons x r ih=>simp[ih];lia
def B1e(q:List PI)(day:Nat):Mv (q.map (G8 day))=F1 q:=by unfold Mv F1;rw[B5A,Iu];simp;rfl
structure V3(S:PS)(q:List PI):Prop where
 ok:OkS S
 nq: ∀i∈q,i.no<=S.numb
 gt: ∀i∈q,i.no≠0->∀j∈S.items,j.no<i.no
 qs:q.Pairwise (λa b=>a.no≠0->b.no≠0->a.no<b.no)
 qk: ∀i∈q,QOk S i
 kk: ∀i∈q,i.k.natAbs<=1000000000000
def V3.wi{S:PS}{q:List PI}(h:V3 S q):WI S.numb S q [] []:=by
 refine⟨by simpa using h.ok.srt,λi hi=>?_,by simp,λi hi=>?_,Gi _,h.nq,λi hi hn j hj=>h.gt i hi hn j (by simpa using hj),h.qs,h.qk,h.ok.pyU⟩
 ·exact(h.ok.itI i (by simpa using hi)).no.2
 ·exact h.ok.itI i (by simpa using hi)
def B20{l:List PI}{day:Nat}(h:l.Pairwise λa b=>a.no<b.no):(l.map (G8 day)).Pairwise λa b=>a.no<b.no:=by rw[List.pairwise_map];exact h
def A9z{S:PS}{q:List PI}(h:V3 S q):(Mb (Mv (q.map (G8 S.day))+1) (B2 S) (q.map (G8 S.day))).bind Nc=(wkR S q).map B2:=by
 rw[B1e];have hs:=sim (F1 q) (F1 q+1) S q [] [] (S.items.map (G8 S.day)) (Gi _) (by lia) h.qk h.kk (by simp);have e0:U2 S (S.items.map (G8 S.day))=B2 S:=rfl;rw[e0]at hs;have hi:=λS'=>A5W (F1 q) S q [] [] S' h.wi;unfold wkR;generalize wkP (F1 q) S q [] []=a at hs hi ⊢;generalize Mb (F1 q+1) (B2 S) (q.map (G8 S.day))=b at hs ⊢
 cases hs with
 |no=>rfl
 | @yes S' its hp=>
  have r:=hi S' rfl;dsimp[Jf];have e1:(U2 S' its).items=its:=rfl;have hl:its.length=S'.items.length:=by have:=hp.length_eq;simpa using this
  unfold Nc Kcp0.ITEMS Kcp0.PAYS;by_cases hb:S'.items.length<=48/\S'.pays.length<=400
  ·rw[Gf hb,Gd (by rw[e1,hl];show ¬(48<S'.items.length\/400<S'.pays.length);lia)];rw[B9u (C:=U2 S' its) (l:=S'.items.map (G8 S'.day)) hp (B20 r.srt)];rfl
  ·rw[Gd hb,Gf (by rw[e1,hl];show(48<S'.items.length\/400<S'.pays.length);lia)];rfl
structure B8Q(S S':PS)(z:Nat):Prop where
 ok:OkS S'
 n:S'.n=S.n
 day:S'.day=S.day
 shelf:S'.shelf=S.shelf
 deals:S'.deals=S.deals
 sf:S'.sf=S.sf
 wv:S'.wv=S.wv
 sz:F1 S'.items<=z
def A2e{S S':PS}{q:List PI}(h:V3 S q)(e:wkR S q=some S'):wkP (F1 q) S q [] []=some S'/\(S'.items.length<=48/\S'.pays.length<=400)/\B8Q S S' (F1 S.items+F1 q):=by
 unfold wkR at e
 cases hw:wkP (F1 q) S q [] [] with
 |none=>rw[hw]at e;cases e
 |some T=>
  rw[hw]at e;dsimp[Jf]at e;split at e
  ·rename_i hb;cases e;have r:=A5W (F1 q) S q [] [] S' h.wi hw;refine⟨rfl,hb,⟨⟨by rw[r.n];exact h.ok.n,by rw[r.shelf];exact h.ok.shelf,by rw[r.shelf];exact h.ok.shC,by rw[r.deals];exact h.ok.deals,hb.1,r.bd,r.srt,hb.2,r.py,by rw[r.wv];exact h.ok.wv⟩,r.n,r.day,r.shelf,r.deals,r.sf,r.wv,by have:=r.sz;simp[F1]at this ⊢;exact this⟩⟩
  ·cases e
def A5X{S S':PS}{q:List PI}(hw:wkP (F1 q) S q [] []=some S'):wkR S q=if S'.items.length<=48/\S'.pays.length<=400 then some S' else none:=by unfold wkR;rw[hw];rfl
def C3r{S:PS}{q:List PI}(h:V3 S q):Mh (B2 S) (q.map (G8 S.day))=(wkR S q).map B2:=A9z h
def bare(S:PS):PS:={S with items:=[]}
def B4J{S:PS}(h:OkS S):OkS (bare S):=⟨h.n,h.shelf,h.shC,h.deals,by simp[bare],by simp[bare],by simp[bare],h.pays,h.pyU,h.wv⟩
def V3.all{S:PS}(h:OkS S):V3 (bare S) S.items:=
 ⟨B4J h,λi hi=>(h.itI i hi).no.2,λi hi _ j hj=>by simp[bare]at hj,h.srt.imp λh _ _=>h,λi hi=>⟨(h.itI i hi).c,(h.itI i hi).lk,(h.itI i hi).lw⟩,λi hi=>(h.itI i hi).k⟩
def B43{S:PS}(h:OkS S):Mw (B2 S)=(wkR (bare S) S.items).map B2:=A9z (V3.all h)
def unch(i:PI):PI:=match i.c with
 |.or_ a _=>i.had a
 |_=>i
def orP(i:PI):Bool:=Mm i.c
def B6t{S:PS}(F:Kcp0.Item->Kcp0.Item)(h: ∀i∈S.items,F (G8 S.day i)=G8 S.day (unch i)):(B2 S).items.map F=(S.items.map unch).map (G8 S.day):=by show(S.items.map (G8 S.day)).map _=_;rw[Iu,Iu];exact Ir h
def V3.unch{S:PS}(h:OkS S):V3 (bare S) (S.items.map PP.unch):=by
 have key: ∀i∈S.items,(PP.unch i).no=0\/(PP.unch i).no=i.no:=λi _=>by
  unfold PP.unch;split
  ·exact .inl rfl
  ·exact .inr rfl
 have h1:=V3.all h;refine⟨B4J h,λi hi=>?_,λi hi _ j hj=>by simp[bare]at hj,?_,λi hi=>?_,λi hi=>?_⟩
 ·obtain⟨j,hj,rfl⟩:=Ip.mp hi;rcases key j hj with e|e
  ·rw[e];lia
  ·rw[e];exact h1.nq j hj
 ·rw[List.pairwise_map];refine List.Pairwise.imp_of_mem (λ{a b} ha hb hab h1 h2=>?_) h.srt;rcases key a ha with e|e
  ·exact Gn e h1
  ·rcases key b hb with e'|e'
   ·exact Gn e' h2
   ·rw[e,e'];exact hab
 ·obtain⟨j,hj,rfl⟩:=Ip.mp hi;have q:=h1.qk j hj;unfold PP.unch;split
  ·rename_i hc;have:=q.c;rw[hc]at this;have hw:=this.1;simp[E5]at hw;exact .mk1 (T0 this hw.1 (by simp[A9]<;>lia))
  ·exact q
 ·obtain⟨j,hj,rfl⟩:=Ip.mp hi;have q:=h1.kk j hj;unfold PP.unch;split
  ·exact q
  ·exact q
def A50(l:List PI):F1 (l.map unch)<=F1 l/\(l.any orP=true->F1 (l.map unch)<F1 l):=by
 induction l with
 |nil=>simp[F1]
 |cons i l ih=>
  rw[Gm,J4,J4];have h1:Ku (unch i).c<=Ku i.c/\(orP i=true->Ku (unch i).c<Ku i.c):=by unfold unch orP;cases hc:i.c<;>simp[Mm,hc,Ku,PI.had]<;>lia
  refine⟨by lia,λh=>?_⟩;rw[Ig,Ht]at h;rcases h with h|h
  ·have:=h1.2 h;lia
  ·have:=ih.2 h;lia
def chP:Nat->PS->Option PS
 |0,S=>some S
 |f+1,S=>if S.items.any orP=true then(wkR (bare S) (S.items.map unch)).bind (chP f) else some S
def C3p(S:PS):(B2 S).items.any (λi=>Mm i.c)=S.items.any orP:=by show(S.items.map (G8 S.day)).any _=_;rw[List.any_map];rfl
theorem A83: ∀(f:Nat)(S:PS),OkS S->Nf f (B2 S)=(chP f S).map B2
 |0,S,_=>rfl
 |f+1,S,h=>by
  unfold Nf chP;rw[C3p];by_cases ho:S.items.any orP=true
  ·rw[Gf ho,Gf ho];simp only;rw[B6t (S:=S) _ λi hi=>?_]
   rotate_left
   ·have oi:=h.itI i hi
    cases hc:i.c with
    |or_ a b=>
     have nl:i.lk≠S.day:=λe=>by obtain⟨⟨d,b,a,e⟩,_⟩:=oi.lw e;rw[hc]at e;cases e
     have e1:unch i=i.had a:=by unfold unch;rw[hc]
     have e2:(G8 S.day i).c=.or_ a b:=hc;rw[e1,A2h nl];dsimp[e2]
    |_=>
     have e1:unch i=i:=by unfold unch;rw[hc]
     have e2:(G8 S.day i).c=_:=hc;rw[e1];dsimp[e2]
   have e:=A9z (V3.unch h);have e2:B2 (bare S)={B2 S with items:=[]}:=rfl;have e3:(bare S).day=S.day:=rfl;rw[e2,e3]at e;rw[e]
   cases hr:wkR (bare S) (S.items.map unch) with
   |none=>rfl
   |some T=>dsimp[Hg,Jf];exact A83 f T (A2e (V3.unch h) hr).2.2.ok
  ·rw[Gd ho,Gd ho];rfl
theorem B8s: ∀(f:Nat)(S S':PS),OkS S->chP f S=some S'->B8Q S S' (F1 S.items)
 |0,S,S',h,e=>by cases e;exact⟨h,rfl,rfl,rfl,rfl,rfl,rfl,Gi _⟩
 |f+1,S,S',h,e=>by
  unfold chP at e;split at e
  ·cases hr:wkR (bare S) (S.items.map unch) with
   |none=>rw[hr]at e;cases e
   |some T=>rw[hr]at e;dsimp[Jf]at e;have g:=(A2e (V3.unch h) hr).2.2;have g2:=B8s f T S' g.ok e;have:=(A50 S.items).1;have h1:=g.sz;have h2:=g2.sz;have e0:F1 (bare S).items=0:=rfl;rw[e0]at h1;exact⟨g2.ok,g2.n.trans g.n,g2.day.trans g.day,g2.shelf.trans g.shelf,g2.deals.trans g.deals,g2.sf.trans g.sf,g2.wv.trans g.wv,by lia⟩
  ·cases e;exact⟨h,rfl,rfl,rfl,rfl,rfl,rfl,Gi _⟩
theorem B16: ∀(f g:Nat)(S:PS),OkS S->F1 S.items<f->F1 S.items<g->chP f S=chP g S
 |0,g,S,_,h,_=>by lia
 |f+1,0,S,_,_,h=>by lia
 |f+1,g+1,S,ok,h1,h2=>by
  unfold chP;split
  ·rename_i ho
   cases hr:wkR (bare S) (S.items.map unch) with
   |none=>rfl
   |some T=>dsimp[Jf];have g':=(A2e (V3.unch ok) hr).2.2;have:=(A50 S.items).2 ho;have h3:=g'.sz;have e0:F1 (bare S).items=0:=rfl;rw[e0]at h3;exact B16 f g T g'.ok (by lia) (by lia)
  ·rfl
def lF(f:Nat->Int):List V:=(List.range 4).map λu=>.int (f u)
def C2J(f:Nat->Int){u:Nat}(h:u<4):(lF f)[u]?=some (.int (f u)):=by simp[lF,h]
def B7I(f:Nat->Int){u:Nat}(h:u<4)(v:Int):(lF f).set u (.int v)=lF λk=>if k=u then v else f k:=by
 refine List.ext_getElem (by simp[lF]) λi h1 h2=>?_;by_cases e:i=u
 ·subst e;simp[lF]
 ·simp[lF,List.getElem_set,e,Ii e]
def B7J{f g:Nat->Int}(h: ∀u,u<4->f u=g u):lF f=lF g:=by unfold lF;apply Ir;intro u hu;rw[h u (by simpa using hu)]
def A6s(f:Nat->Int):(lF f).length=4:=by simp[lF]
def B1C{n k:Nat}(h:k<n):ixN n (k:Int)=some k:=by unfold ixN;rw[Gf (Int.natCast_nonneg k),Gf (by lia)];simp
def C0p(l:List Kcp0.Pay)(x:Kcp0.Pay)(p u:Nat):Lk (l++[x]) p u=if x.unit=u then Lk l p u+(if x.to_=p then(x.much:Int) else 0) - (if x.from_=p then(x.much:Int) else 0) else Lk l p u:=by unfold Lk;rw[Kb];rfl
inductive B9q(vs:List V)(H:Hp)(Q:VK)(E:XK):Prop
 |mk(l:Nh)(as:List Nh)(ps:List Kcp0.Pay)(p:Nat)(_:vs=[.ref l,.int p])(_:H l=some (.lst (as.map V.ref)))(_:C1 (A7u H) as ps)(_:(∀x∈ps,x.unit<4))(_: ∀r,H r=none->Q (.ref r) (upd H r (.lst (lF (Lk ps p)))))
def B4H:T.B4w.C T base 1 (B9q):=by
 refine T.B4w.g (N:=["payments","party","sums","payment","unit"]) T (B4M) [none,none,none] (λ_ _=>trivial) ?_;obtain⟨l,as,ps,p,rfl,hl,h2,hu,q⟩;simp[B4M];refine A0S (A3o λH' s=>T.B9A.sq H') (λ_=>some (.int 0)) (by decide) (λy hy H' s Y N q=>by simpa using q) λr hr=>?_;have e0:List.filterMap (λ_=>some (V.int 0)) [V.str "A",V.str "B",V.str "C",V.str "D"]=lF (Lk [] p):=rfl;dsimp[e0];have nl:l≠r:=A2 hl hr;simp[↓Lsn nl,↓Ls hl];refine Y9 (F3 (G:=λH'=>H' l=some (.lst (as.map V.ref))) λH' e=>e) (λi S H'=>H'=upd H r (.lst (lF (Lk (ps.take i) p)))/\∃o o2,S=[some (.ref l),some (.int p),some (.ref r),o,o2]) ⟨by simp,_,_,rfl⟩ (by rintro i S H' ⟨rfl,_⟩;rw[A4 nl];exact hl) ?_ ?_
 ·rintro i x S H' hi ⟨rfl,o,o2,rfl⟩ N hN;rw[Ha]at hi;obtain⟨a,ha,rfl⟩:=Hh.mp hi;obtain⟨it,e,di,c1⟩:=h2.get ha;have ht:ps.take (i+1)=ps.take i++[it]:=by rw[Hz,e];rfl
  have hun:=hu it (Gw e);have na:a≠r:=A2 c1 hr;have N': ∀f,(∀u,u<4->f u=Lk (ps.take (i+1)) p u)->N [some (.ref l),some (.int p),some (.ref r),some (.ref a),o2] (upd H r (.lst (lF f))):=λf hf=>hN _ _ ⟨by rw[B7J hf],_,_,rfl⟩;have g: ∀f,atI (lF f) (it.unit:Int)=some (.int (f it.unit)):=λf=>by rw[M4,C2J f hun]
  have ix:ixN 4 (it.unit:Int)=some it.unit:=B1C hun;have n1:((it.to_:Int)=(p:Int))↔it.to_=p:=by lia
  have n2:((it.from_:Int)=(p:Int))↔it.from_=p:=by lia
  simp[↓N0 na,↓Ob c1,↓gX (g _),A6s,ix,B7I _ hun,n1,n2];by_cases h1:it.to_=p<;>by_cases h2:it.from_=p<;>simp[h1,h2,↓gX (g _),A6s,ix,B7I _ hun]
  all_goals refine N' _ λu hu=>?_
  all_goals rw[ht,C0p]
  all_goals by_cases h3:it.unit=u<;>simp[h1,h2,h3,Ii]
  all_goals try rw[Gd (Ii h3)]
 ·rintro S H' ⟨rfl,o,o2,rfl⟩;simp;rw[h2.1,Ho];exact q r hr
def A6Y:T.A1R.C T base 2 (A9Z .balance):=by
 refine T.A1R.g T (A0o _) [] (by nomatch B4H T) ?_;obtain⟨d,dx,b,u,D,n,rfl,hd,ok,q⟩;obtain⟨s,A,hx,st⟩:=hd.st;obtain⟨ps,h1,h2⟩:=st.pays;by_cases hn:D.now.n<=n
 ·simp[A0o,↓Ob hx,↓Ob st.cell,hn];exact⟨by decide,q.stay hd ok (A5.refl _) (v:=.num (-22)) (ans:=[-22]) rfl (by simp[Kt,B5,B2,Ng,hn]) rfl⟩
 ·simp[A0o,↓Ob hx,↓Ob st.cell,hn];refine⟨by decide,λp hp=>?_⟩;simp[↓N0 (A2 hx hp),↓Ob hx,↓N0 (A2 st.cell hp),↓Ob st.cell];have s1:=A5.new (o:=.lst [.int 0]) hp;refine⟨A.l4,ps,D.now.pays,n,rfl,s1 _ _ h1,h2.imp λ_ _ q=>q.ext s1.ext,ok.now.pyU,λr hr=>?_⟩;simp[↓Lsn (A2 A3 hr),A6s];refine⟨by decide,?_⟩;exact q.stay hd ok (s1.trans (A5.new hr)) (v:=.some_ 0 ((List.range 4).map (Lk D.now.pays n))) (ans:=0::((List.range 4).map (Lk D.now.pays n))) (by simp[lF]) (by simp[Kt,B5,B2,Ng,Kcp0.UNITS];lia) rfl
def B3w:T.A6E.C T base 2 (A9Z .net):=by
 refine T.A6E.g (N:=["desk","day","payments","told","party","payment"]) T (A3g _) [none,none,none,none] (by nomatch B4H T) ?_;obtain⟨d,dx,b,u,D,n,rfl,hd,ok,q⟩;obtain⟨s,A,hx,st⟩:=hd.st;obtain⟨ps,h1,h2⟩:=st.pays;have op:=ok.now.pays;by_cases hn:D.now.day<n
 ·simp[A3g,↓Ob hx,↓Ob st.cell,hn];exact⟨by decide,q.stay hd ok (A5.refl _) (v:=.num (-22)) (ans:=[-22]) rfl (by simp[Kt,B5,B2,hn]) rfl⟩
 ·simp[A3g,↓Ob hx,↓Ob st.cell,hn,↓Ls h1];refine A09 (F3 (G:=λH'=>H' A.l4=some (.lst (ps.map V.ref))) λH' e=>e) (by simp;exact A8c (by rw[h2.1];lia)) (λZ i acc H'=>H'=upd H Z (.lst acc)/\H Z=none/\∃as,acc=as.map V.ref/\C1 (A7u H) as ((D.now.pays.take i).filter λx=>x.day==n)) (λZ hZ=>⟨rfl,hZ,[],rfl,by simpa using C1.nil⟩) ?_ ?_ ?_
  ·rintro Z i acc H' ⟨rfl,hZ,as,rfl,ha⟩;refine⟨by rw[A4 (A2 h1 hZ)];exact h1,A3,?_⟩;have:=Kn (λx:Kcp0.Pay=>x.day==n) (D.now.pays.take i);have:=List.length_take_le i D.now.pays;have:=ha.1;simp;lia
  ·rintro Z i x acc H' hZ hi ⟨rfl,_,as,hacc,has⟩ Y N hY hN;rw[Ha]at hi;obtain⟨a,ha,rfl⟩:=Hh.mp hi;obtain⟨it,e,di,c1⟩:=h2.get ha;have ht:D.now.pays.take (i+1)=D.now.pays.take i++[it]:=by rw[Hz,e];rfl
   simp[↓N0 (A2 c1 hZ),↓Ob c1];split
   ·rename_i h;have h':it.day=n:=by lia
    refine hY _ _ A3 ⟨by simp,hZ,as++[a],by simp[hacc],?_⟩;rw[ht,Jx];dsimp[List.filter_cons,List.filter_nil];rw[Gf (by simp[h'])];exact has.append (.cons ⟨di,c1⟩ .nil)
   ·rename_i h;have h':it.day≠n:=by lia
    exact hN _ ⟨rfl,hZ,as,hacc,by rw[ht];simpa[h'] using has⟩
  ·rintro Z acc H' hZ ⟨rfl,_,as,rfl,has⟩;rw[Gz,h2.1,Ho]at has;refine⟨by decide,λt ht=>?_⟩;have nZ:Z≠t:=A2 A3 ht;have s1:=(A5.new (o:=.lst (as.map V.ref)) hZ).trans (A5.new (o:=.lst [.int 0]) ht);have nd:d≠t:=A2 hx (((A5.new hZ)).free ht);have ns:s≠t:=A2 st.cell (((A5.new hZ)).free ht);simp[↓N0 nd,↓N0 ns,↓N0 (A2 hx hZ),↓N0 (A2 st.cell hZ),↓Ob hx,↓Ob st.cell];have hsix:=ok.now.n;refine⟨by lia,?_⟩;have key: ∀(i:Nat),i<=6->((List.range i).flatMap λp=>lF (Lk (D.now.pays.filter λx=>x.day==n) p)).length<=24:=λi hi=>by
    rw[List.length_flatMap];have:((List.range i).map λp=>(lF (Lk (D.now.pays.filter λx=>x.day==n) p)).length)=List.replicate i 4:=by rw[List.eq_replicate_iff];simp[A6s]
    rw[this];simp;lia
   refine Y9 (B2F (G:=λ_=>True)) (λi S H'=>(∃o o2,S=[some (.ref d),some (.int n),some (.ref Z),some (.ref t),o,o2])/\Kp [t] (upd (upd H Z (.lst (as.map V.ref))) t (.lst [.int 0])) H'/\H' t=some (.lst (.int 0::(List.range i).flatMap λp=>lF (Lk (D.now.pays.filter λx=>x.day==n) p)))) ⟨⟨_,_,rfl⟩,Kp.refl _ _,by simp⟩ (λ_ _ _ _=>trivial) ?_ ?_
   ·rintro i x S H' hi ⟨⟨o,o2,rfl⟩,kp,hc⟩ N hN;rw[Ha]at hi;obtain⟨j,hj,rfl⟩:=Hh.mp hi;obtain⟨hj1,hj2⟩:=Hl.mp hj;simp at hj2 hj1;subst hj2;simp[↓iL hc];have hz:H' Z=some (.lst (as.map V.ref)):=kp _ _ (by rw[A4 nZ,A3]) (by simpa using nZ);have s2:A5 H H':=A5.kp s1 kp (by simpa using(A5.new hZ).free ht);refine⟨Z,as,D.now.pays.filter λx=>x.day==n,i,rfl,hz,has.imp λ_ _ q=>q.ext s2.ext,λx hx=>ok.now.pyU x (Kl.mp hx).1,λr hr=>?_⟩;have nt:t≠r:=A2 hc hr;simp[↓Lsn nt,↓Ls hc];have:=key i (by lia);refine⟨by rw[A6s];rw[List.length_flatMap]at this;exact big (by lia),hN _ _ ⟨⟨_,_,rfl⟩,?_,?_⟩⟩
    ·exact(kp.trans (.of (A5.new hr))).upd (.inl (by simp))
    ·rw[A3,List.range_succ];simp
   ·rintro S H' ⟨⟨o,o2,rfl⟩,kp,hc⟩;simp;have s2:A5 H H':=A5.kp s1 kp (by simpa using(A5.new hZ).free ht);simp at hc;have e:Kt (B5 D) (.net n)=(B5 D,.some_ 0 ((List.range D.now.n).flatMap λp=>(List.range 4).map (Lk (D.now.pays.filter λx=>x.day==n) p))):=by simp[Kt,B5,B2,Kcp0.UNITS,hn]
    refine q _ b u t D (.of s2) (.inl rfl) (.inl rfl) ok (by rw[e]) (.inl ((A5.new hZ).free ht)) ?_ (hd.mono s2);rw[hc,e];simp[Kcp0Neutral.tell,lF,List.map_flatMap];rfl
@[simp]def D0q{S:Type}(xs:List S):atI xs 4=xs[4]?:=M4 xs 4
@[simp]def D0p{S:Type}(xs:List S):atI xs 5=xs[5]?:=M4 xs 5
def ToQ(H:Hp)(d dx b u:Nh)(r:Kcp0.Abs×Kcp0.Ans)(Q:VK):Prop:=∀H' b' u' p D',Kp [d,b,u] H H'->(b'=b\/H b'=none)->(u'=u\/H u'=none)->OkD D'->B5 D'=r.1->
 (H p=none\/p∈[d,b,u])->H' p=some (.lst ((Kcp0Neutral.tell r.2).map V.int))->G6 H' d dx b' u' D'->Q (.ref p) H'
def A0Y.to{H:Hp}{d dx b u:Nh}{D:PD}{c:Kcp0.Call}{Q:VK}(q:A0Y H d dx b u D c Q):ToQ H d dx b u (Kt (B5 D) c) Q:=q
def ToQ.mono{H H1:Hp}{d dx b u:Nh}{r:Kcp0.Abs×Kcp0.Ans}{Q:VK}(q:ToQ H d dx b u r Q)(s:A5 H H1):ToQ H1 d dx b u r Q:=
 λH' b' u' p D' k h1 h2 ok e h3 h4 hd=>q H' b' u' p D' ((Kp.of s).trans k) (h1.imp_right s.free) (h2.imp_right s.free) ok e (h3.imp_left s.free) h4 hd
def ToQ.stay{H H1:Hp}{d dx b u:Nh}{D:PD}{v:Kcp0.Ans}{Q:VK}(q:ToQ H d dx b u (B5 D,v) Q)(hd:G6 H d dx b u D)(ok:OkD D)(s:A5 H H1){xs:List V}(hx:xs=(Kcp0Neutral.tell v).map V.int):
  ∀p,H1 p=none->Q (.ref p) (upd H1 p (.lst xs)):=λp hp=>by
 have s':=s.trans (A5.new (o:=.lst xs) hp);refine q _ b u p D (.of s') (.inl rfl) (.inl rfl) ok rfl (.inl (s.free hp)) ?_ (hd.mono s');rw[A3,hx]
def ToQ.num{H H1:Hp}{d dx b u:Nh}{D:PD}{v:Int}{Q:VK}(q:ToQ H d dx b u (B5 D,.num v) Q)(hd:G6 H d dx b u D)(ok:OkD D)(s:A5 H H1):(1:Nat)<=sizeLine/\∀p,H1 p=none->Q (.ref p) (upd H1 p (.lst [.int v])):=⟨by decide,q.stay hd ok s rfl⟩
def ToQ.num'{H H1:Hp}{d dx b u:Nh}{D:PD}{r:Kcp0.Abs×Kcp0.Ans}{v:Int}{Q:VK}(q:ToQ H d dx b u r Q)(hd:G6 H d dx b u D)(ok:OkD D)(s:A5 H H1)(e:r=(B5 D,.num v)):(1:Nat)<=sizeLine/\∀p,H1 p=none->Q (.ref p) (upd H1 p (.lst [.int v])):=by rw[e]at q;exact q.num hd ok s
def A4s{H H2:Hp}{d dx b u s:Nh}{D:PD}{A:SA}{S:PS}{v:Int}{Q Q2:VK}{E:XK}(hd:G6 H d dx b u D)(ok:OkD D)(oS:OkS S)(s2:A5 H H2)(hs:H s=none)(ha:A.fresh H)(st:D3 H2 s A S)(q:ToQ H d dx b u (Mg (B5 D) (B2 S) v) Q)(h: ∀H3,D3 H3 s A S->(∀p,H3 p=none->Q (.ref p) (upd H3 p (.lst [.int v])))->Q2 .non H3):A9X [.ref d,.ref s] H2 Q2 E:=by
 have hl:D.bef.length<=32:=by have:=ok.few;lia
 refine⟨d,dx,b,u,s,A,D,S,rfl,hd.mono s2,hl,D3.beside hd s2 hs ha st,λH3 b' u' kp h1 h2 w hd3=>h H3 (((D3.beside hd s2 hs ha st).mono w).mono (B3K _ _)) λp hp=>?_⟩;rw[B8L D S hl v]at q;have kp':Kp [d,b,u] H H3:=(Kp.of s2).trans kp;refine q _ b' u' p (goD D S) (kp'.trans (.of (A5.new hp))) (h1.imp_right s2.free) (.inr (s2.free h2)) (ok.go oS) rfl (kp'.free hp) (by rw[A3];rfl) (hd3.mono (A5.new hp))
inductive B1b(vs:List V)(H:Hp)(Q:VK)(E:XK):Prop
 |mk(d dx b u a:Nh)(D:PD)(c:Con)(_:vs=[.ref d,.ref a])(_:G6 H d dx b u D)(_:OkD D)(_:B0 H a (.con c))(_:okS c)(_:ToQ H d dx b u (Mi (B5 D) c) Q)
def A6Z:T.B1Q.C T base 4 (B1b):=by
 refine T.B1Q.g T (A7f _ _ _) [none] (by nomatch A6X T,W4 T,M0 T) ?_;obtain⟨d,dx,b,u,a,D,c,rfl,hd,ok,pa,oc,q⟩;obtain⟨s,A,hx,st⟩:=hd.st;obtain⟨ps,h1,h2⟩:=st.shelf;unfold Mi at q;by_cases hn:16<=D.now.shelf.length
 ·rw[Gf (by exact hn)]at q;have hn':(16:Int)<=(D.now.shelf.length:Int):=by lia
  simp[A7f,Z9,↓Ob hx,↓Ob st.cell,↓Ls h1,h2.1,hn'];exact q.num hd ok (A5.refl _)
 ·rw[Gd (by exact hn)]at q;have hn': ¬(16:Int)<=(D.now.shelf.length:Int):=by lia
  simp[A7f,Z9,↓Ob hx,↓Ob st.cell,↓Ls h1,h2.1,hn'];refine⟨s,A,D.now,rfl,st,λH1 s' A' s1 hs' hf hdis st'=>?_⟩;obtain⟨ps',h1',h2'⟩:=st'.shelf;simp[↓Ob st'.cell,↓iL h1',↓Ls h1',h2'.1];refine⟨A8c (by lia),?_⟩;have n1:=st'.ne_l.1;have kp:Kp [A'.l1] H1 (upd H1 A'.l1 (.lst (ps'.map V.ref++[.ref a]))):=(Kp.refl _ _).upd (.inl (by simp));have ex:O8 H1 (upd H1 A'.l1 (.lst (ps'.map V.ref++[.ref a]))):=(O8.refl _).updL h1';have s2:A5 H (upd H1 A'.l1 (.lst (ps'.map V.ref++[.ref a]))):=A5.kp s1 kp (by simpa using hf A'.l1 (by simp));have st2:D3 (upd H1 A'.l1 (.lst (ps'.map V.ref++[.ref a]))) s' A' {D.now with shelf:=D.now.shelf++[c]}:=by
   obtain⟨⟨d12,d13,d14,d15⟩,_⟩:(A'.l1≠A'.l2/\A'.l1≠A'.l3/\A'.l1≠A'.l4/\A'.l1≠A'.l5)/\True:=by unfold SA.dis at hdis;simp at hdis;exact⟨hdis.1,trivial⟩
   obtain⟨c0,_,⟨a2,b2,c2⟩,⟨a3,b3,c3⟩,⟨a4,b4,c4⟩,w⟩:=st';exact⟨by rw[A4 n1];exact c0,⟨ps'++[a],by rw[A3];simp,(h2'.imp λ_ _ q=>q.ext ex).append (.cons (pa.mono s2) .nil)⟩,⟨a2,by rw[A4 d12.symm];exact b2,c2.imp λ_ _ q=>q.ext ex⟩,⟨a3,by rw[A4 d13.symm];exact b3,c3.imp λ_ _ q=>q.ext ex⟩,⟨a4,by rw[A4 d14.symm];exact b4,c4.imp λ_ _ q=>q.ext ex⟩,by rw[A4 d15.symm];exact w⟩
  have oS:OkS {D.now with shelf:=D.now.shelf++[c]}:=by
   have o:=ok.now;refine⟨o.n,by simp;lia,?_,o.deals,o.items,?_,o.srt,o.pays,o.pyU,o.wv⟩
   ·intro c' hc';rcases Gp.mp hc' with h|h
    ·exact o.shC c' h
    ·rw[Gq.mp h];exact oc
   ·intro i hi;have oi:=o.itI i hi;exact⟨oi.c,oi.k,oi.no,oi.lk,oi.lw⟩
  refine A4s hd ok oS s2 hs' hf st2 q λH3 st3 q3=>?_;obtain⟨ps3,h13,h23⟩:=st3.shelf;simp[↓Ob st3.cell,↓Ls h13,h23.1];exact⟨by decide,q3⟩
def A5I:T.A1j.C T base 7 (A9Z .tidy):=by
 refine T.A1j.g T (T2 _ _ _ _) [] (by nomatch A6X T,A6Z T,J8 T,B8w T) ?_;obtain⟨d,dx,b,u,D,n,rfl,hd,ok,q⟩;have q:=q.to;obtain⟨s,A,hx,st⟩:=hd.st;obtain⟨ps,h1,h2⟩:=st.shelf;by_cases hn:n<D.now.shelf.length
 ·generalize hc:D.now.shelf[n]=c;have e:D.now.shelf[n]?=some c:=by simp[hn,hc]
  obtain⟨a,ha,pa⟩:=h2.at e;have oc:=ok.now.shC c (Gw e);have eq:Kt (B5 D) (.tidy n)=Mi (B5 D) (Kw c):=by simp[Kt,A0G,B2,e]
  rw[eq]at q;by_cases hf:16<=D.now.shelf.length
  ·have hn':(16:Int)<=(D.now.shelf.length:Int):=by lia
   simp[T2,B3,Z9,↓Ob hx,↓Ob st.cell,↓Ls h1,h2.1,hn,hn'];unfold Mi at q;rw[Gf (by exact hf)]at q;exact q.num hd ok (A5.refl _)
  ·have hn': ¬(16:Int)<=(D.now.shelf.length:Int):=by lia
   simp[T2,B3,Z9,↓Ob hx,↓Ob st.cell,↓Ls h1,h2.1,hn,hn'];refine gI (i:=.ref a) (by rw[M4];simp[ha]) ?_;refine⟨a,.con c,rfl,pa,oc.1,by simp[Nd.post];have:=oc.2;lia,λH1 r s1 pr=>?_⟩;have ot:=J3 c oc.1;exact⟨d,dx,b,u,r,D,Kw c,rfl,hd.mono s1,ok,pr,⟨ot.1,Hc ot.2 oc.2⟩,q.mono s1⟩
 ·simp[T2,B3,↓Ob hx,↓Ob st.cell,↓Ls h1,h2.1,hn];exact q.num' hd ok (A5.refl _) (by simp[Kt,A0G,B2,He (Ia hn)])
inductive B6O(vs:List V)(H:Hp)(Q:VK)(E:XK):Prop
 |mk(l:Nh)(as:List Nh)(sh:List Con)(kind a b:Nat)(x:Int)(p q m:Con)(_:vs=[.ref l,.int kind,.int a,.int b,.int x])(_:H l=some (.lst (as.map V.ref)))(_:C1 (λa c=>B0 H a (.con c)) as sh)(_:(∀c∈sh,(Ks c).length<=20000))(_:sh[a]?=some p)(_:sh[if kind<=1 then b else a]?=some q)(_:Ll kind p q x=some m)(_: ∀H' r,A5 H H'->B0 H' r (.con m)->Q (.ref r) H')
def C3a:T.B8b.C T base 4 (B6O):=by
 refine T.B8b.g T (A3h _ _ _) [none] (by nomatch O5 T,A63 T,O7 T) ?_;obtain⟨l,as,sh,kind,a,b,x,p,q,m,rfl,hl,h2,ht,ha,hb,hm,k⟩;have tp:=ht p (Gw ha);have tq:=ht q (Gw hb);obtain⟨pa,ea,hpa⟩:=h2.at ha;obtain⟨pb,eb,hpb⟩:=h2.at hb;have ga:atI (as.map V.ref) (a:Int)=some (.ref pa):=by rw[M4];simp[ea]
 unfold Ll at hm;have hk:kind=0\/kind=1\/kind=2\/kind=3\/kind=4\/kind=5:=by
  by_cases h0:kind=0
  ·simp[h0]
  ·by_cases h1:kind=1
   ·simp[h1]
   ·by_cases h2:kind=2
    ·simp[h2]
    ·by_cases h3:kind=3
     ·simp[h3]
     ·rw[Gd h0,Gd h1,Gd h2,Gd h3]at hm;split at hm
      ·lia
      ·cases hm
 rcases hk with rfl|rfl|rfl|rfl|rfl|rfl
 ·simp at hm eb;subst hm;have gb:atI (as.map V.ref) (b:Int)=some (.ref pb):=by rw[M4];simp[eb]
  simp[A3h,↓Ls hl,↓gX ga,↓gX gb];refine⟨by decide,λt ht=>?_⟩;have s1:=A5.new (o:=.tup [.ref pa,.ref pb]) ht;exact⟨.con (.both p q),t,[pa,pb],rfl,rfl,A3,.cons (hpa.mono s1) (.cons (hpb.mono s1) .nil),by simp[Nd.kids,Nd.txt];exact⟨tp,tq⟩,λH' r s h=>k H' r (s1.trans s) h⟩
 ·simp at hm eb;subst hm;have gb:atI (as.map V.ref) (b:Int)=some (.ref pb):=by rw[M4];simp[eb]
  simp[A3h,↓Ls hl,↓gX ga,↓gX gb];refine⟨by decide,λt ht=>?_⟩;have s1:=A5.new (o:=.tup [.ref pa,.ref pb]) ht;exact⟨.con (.or_ p q),t,[pa,pb],rfl,rfl,A3,.cons (hpa.mono s1) (.cons (hpb.mono s1) .nil),by simp[Nd.kids,Nd.txt];exact⟨tp,tq⟩,λH' r s h=>k H' r (s1.trans s) h⟩
 ·simp at hm eb;subst hm;simp[A3h,↓Ls hl,↓gX ga];refine⟨by decide,λt ht=>?_⟩;have s1:=A5.new (o:=.tup [.ref pa]) ht;exact⟨.con (.turn p),t,[pa],rfl,rfl,A3,.cons (hpa.mono s1) .nil,by simp[Nd.kids,Nd.txt];exact tp,λH' r s h=>k H' r (s1.trans s) h⟩
 ·simp at hm eb;obtain⟨hs,rfl⟩:=hm;rw[R0]at hs;simp at hs;simp[A3h];refine⟨x,rfl,hs,λH1 r s0 pr=>?_⟩;simp[↓Ls (s0 _ _ hl),↓gX ga];refine⟨by decide,λt ht=>?_⟩;have s1:=A5.new (o:=.tup [.ref r,.ref pa]) ht;exact⟨.con (.times (.num x) p),t,[r,pa],rfl,rfl,A3,.cons (pr.mono s1) (.cons (hpa.mono (s0.trans s1)) .nil),by simp[Nd.kids,Nd.txt,Kx];exact⟨by have:=A4U hs;lia,tp⟩,λH' r s h=>k H' r ((s0.trans s1).trans s) h⟩
 ·simp at hm eb;obtain⟨hs,rfl⟩:=hm;have hx:0<=x:=by lia
  have hx2:x<=1000:=by have:=hs.2;simp[Kcp0.DAYS]at this;exact this
  obtain⟨d,rfl⟩:=Int.eq_ofNat_of_zero_le hx;simp[A3h];refine⟨d,rfl,by lia,λH1 r s0 pr=>?_⟩;simp[↓Ls (s0 _ _ hl),↓gX ga];refine⟨by decide,λt ht=>?_⟩;have s1:=A5.new (o:=.tup [.ref r,.ref pa]) ht;exact⟨.con (.at_ d p),t,[r,pa],rfl,rfl,A3,.cons (pr.mono s1) (.cons (hpa.mono (s0.trans s1)) .nil),by simp[Nd.kids,Nd.txt];exact⟨by have:=A4z (d:=d) (by lia);lia,tp⟩,λH' r s h=>k H' r ((s0.trans s1).trans s) (by simpa using h)⟩
 ·simp at hm eb;obtain⟨hs,rfl⟩:=hm;have hx:0<=x:=by lia
  have hx2:x<=1000:=by have:=hs.2;simp[Kcp0.DAYS]at this;exact this
  obtain⟨d,rfl⟩:=Int.eq_ofNat_of_zero_le hx;simp[A3h];refine⟨d,rfl,by lia,λH1 r s0 pr=>?_⟩;simp[↓Ls (s0 _ _ hl),↓gX ga];refine⟨by decide,λt ht=>?_⟩;have s1:=A5.new (o:=.tup [.ref r,.ref pa]) ht;exact⟨.con (.any_ d p),t,[r,pa],rfl,rfl,A3,.cons (pr.mono s1) (.cons (hpa.mono (s0.trans s1)) .nil),by simp[Nd.kids,Nd.txt];exact⟨by have:=A4z (d:=d) (by lia);lia,tp⟩,λH' r s h=>k H' r ((s0.trans s1).trans s) (by simpa using h)⟩
def C0d{kind:Nat}{p q m:Con}{x:Int}(hp:E5 p=true)(hq:E5 q=true)(hm:Ll kind p q x=some m):E5 m=true:=by
 unfold Ll at hm;split at hm
 ·cases hm;simp[E5,hp,hq]
 ·split at hm
  ·cases hm;simp[E5,hp,hq]
  ·split at hm
   ·cases hm;simp[E5,hp]
   ·split at hm
    ·split at hm
     ·rename_i h;cases hm;rw[R0]at h;simp[E5,O3,hp]at h ⊢;exact h
     ·cases hm
    ·split at hm
     ·split at hm
      ·cases hm
      ·rename_i h;simp[Kcp0.DAYS]at h;split at hm<;>cases hm<;>simp[E5,hp]<;>lia
     ·cases hm
def B5h{kind:Nat}{p q m:Con}{x:Int}(hm:Ll kind p q x=some m):(A9 m).length<=(A9 p).length+(A9 q).length+2:=by
 unfold Ll at hm;split at hm
 ·cases hm;simp[A9];lia
 ·split at hm
  ·cases hm;simp[A9];lia
  ·split at hm
   ·cases hm;simp[A9];lia
   ·split at hm
    ·split at hm
     ·cases hm;simp[A9,D6]<;>lia
     ·cases hm
    ·split at hm
     ·split at hm
      ·cases hm
      ·split at hm<;>cases hm<;>simp[A9]<;>lia
     ·cases hm
inductive B9n(vs:List V)(H:Hp)(Q:VK)(E:XK):Prop
 |mk(d dx b u:Nh)(D:PD)(kind a c:Nat)(x:Int)(_:vs=[.ref d,.int kind,.int a,.int c,.int x])(_:G6 H d dx b u D)(_:OkD D)(_:A0Y H d dx b u D (.make kind a c x) Q)
def B18(kind:Nat)(p q:Con)(x:Int):(Ll kind p q x).isSome=(decide (kind<6)&&(if kind=3 then decide (-999999999<=x)&&decide (x<=999999999) else if kind=4\/kind=5 then decide (0<=x)&&decide (x<=1000) else true)):=by
 unfold Ll My Kcp0.NUM Kcp0.DAYS;by_cases h0:kind=0
 ·simp[h0]
 ·by_cases h1:kind=1
  ·simp[h1]
  ·by_cases h2:kind=2
   ·simp[h2]
   ·by_cases h3:kind=3
    ·simp[h3];split<;>simp_all
    ·by_cases h4:kind=4
     ·simp[h4];split<;>simp<;>lia
     ·by_cases h5:kind=5
      ·simp[h5];split<;>simp<;>lia
      ·simp[h0,h1,h2,h3,h4,h5];lia
def A78:T.A2G.C T base 5 (B9n):=by
 refine T.A2G.g T (E7 _ _ _ _) [none] (by nomatch C3a T,A6Z T,B15 T (A5f T) (A82 T),J8 T) ?_;obtain⟨d,dx,b,u,D,kind,a,c,x,rfl,hd,ok,q⟩;have q:=q.to;obtain⟨s,A,hx,st⟩:=hd.st;obtain⟨ps,h1,h2⟩:=st.shelf;have no: ∀{k:Nat},¬k<D.now.shelf.length->D.now.shelf[k]?=none:=λh=>He (Ia h);by_cases ha:a<D.now.shelf.length
 ·by_cases hb:kind<2/\¬c<D.now.shelf.length
  ·have e:Kt (B5 D) (.make kind a c x)=(B5 D,.num (-2)):=by
    have:kind<=1:=by lia
    simp[Kt,A0G,B2,no hb.2,this]
   have h2':(kind:Int)<2:=by lia
   simp[E7,B3,↓Ob hx,↓Ob st.cell,↓Ls h1,h2.1,ha,hb.2,h2'];exact q.num' hd ok (A5.refl _) e
  ·obtain⟨p,ep⟩: ∃p,D.now.shelf[a]?=some p:=⟨D.now.shelf[a],by simp[ha]⟩
   obtain⟨p',ep'⟩: ∃p,D.now.shelf[if kind<=1 then c else a]?=some p:=by
    have:(if kind<=1 then c else a)<D.now.shelf.length:=by split<;>lia
    exact⟨D.now.shelf[if kind<=1 then c else a],by simp[this]⟩
   have e:Kt (B5 D) (.make kind a c x)=(match Ll kind p p' x with|none=>(B5 D,.num (-22))|some m=>if 600<(Ks m).length then(B5 D,.num (-33)) else Mi (B5 D) m):=by simp[Kt,A0G,B2,ep,ep',Kcp0.LONG];cases Ll kind p p' x<;>rfl
   have cm:=B18 kind p p' x;rw[e]at q;have wp:=(ok.now.shC p (Gw ep)).1;have wp':=(ok.now.shC p' (Gw ep')).1;have done: ∀m,Ll kind p p' x=some m->∀Y:VK,(∀r H1 d1 l1 m,H1 r=some (.ins ad.A8 d1 (pF (.con m) l1))->((Ks m).length<=sizeLine/\if(600:Int)<((Ks m).length:Int) then(1:Nat)<=sizeLine/\New H1 (.lst [.int (-33)]) Q else B1b [.ref d,.ref r] H1 Q E0)->Y (.ref r) H1)->B6O [.ref A.l1,.int kind,.int a,.int c,.int x] H Y E0:=by
    intro m hm Y hY;rw[hm]at q;simp only at q;have wm:=C0d wp wp' hm;refine⟨A.l1,ps,D.now.shelf,kind,a,c,x,p,p',m,rfl,h1,h2,λc hc=>(ok.now.shC c hc).len,ep,ep',hm,λH1 r s1 pr=>?_⟩;obtain⟨d1,l1,ks,c1,c2,c3⟩:=pr.cell;have lm:=(A1N m wm).1;have lp:=B5h hm;have o1:=(ok.now.shC p (Gw ep)).2;have o2:=(ok.now.shC p' (Gw ep')).2;have lm2:=(A1N m wm).2;refine hY r H1 d1 l1 m c1 ⟨big (by lia),?_⟩;split
    ·rename_i h;rw[Gf (by lia)]at q;exact q.num hd ok s1
    ·rename_i h;rw[Gd (by lia)]at q;exact⟨d,dx,b,u,r,D,m,rfl,hd.mono s1,ok,pr,⟨wm,by lia⟩,q.mono s1⟩
   have bad:Ll kind p p' x=none->(1:Nat)<=sizeLine/\∀p,H p=none->Q (.ref p) (upd H p (.lst [.int (-22)])):=λhm=>by rw[hm]at q;exact q.num hd ok (A5.refl _)
   have good:(Ll kind p p' x).isSome=true->_:=λh=>done _ (Option.some_get h).symm;have bad':(Ll kind p p' x).isSome=false->_:=λh=>bad (by simpa using h);rw[cm]at good bad';by_cases hk:kind<6
   ·have hk':kind=0\/kind=1\/kind=2\/kind=3\/kind=4\/kind=5:=by lia
    rcases hk' with rfl|rfl|rfl|rfl|rfl|rfl
    ·have hc:c<D.now.shelf.length:=by lia
     simp[E7,O2,B3,↓Ob hx,↓Ob st.cell,↓Ls h1,h2.1,ha,hc];exact good (by simp) _ λr H1 d1 l1 m c1 h=>by simpa[↓Ob c1,P1,Nd.txt] using h
    ·have hc:c<D.now.shelf.length:=by lia
     simp[E7,O2,B3,↓Ob hx,↓Ob st.cell,↓Ls h1,h2.1,ha,hc];exact good (by simp) _ λr H1 d1 l1 m c1 h=>by simpa[↓Ob c1,P1,Nd.txt] using h
    ·simp[E7,O2,B3,↓Ob hx,↓Ob st.cell,↓Ls h1,h2.1,ha];exact good (by simp) _ λr H1 d1 l1 m c1 h=>by simpa[↓Ob c1,P1,Nd.txt] using h
    ·simp[E7,O2,B3,W5,↓Ob hx,↓Ob st.cell,↓Ls h1,h2.1,ha];split
     ·split
      ·exact bad' (by simp;lia)
      ·exact good (by simp;lia) _ λr H1 d1 l1 m c1 h=>by simpa[↓Ob c1,P1,Nd.txt] using h
     ·exact bad' (by simp;lia)
    ·simp[E7,O2,B3,A0q,↓Ob hx,↓Ob st.cell,↓Ls h1,h2.1,ha];split
     ·split
      ·exact bad' (by simp;lia)
      ·exact good (by simp;lia) _ λr H1 d1 l1 m c1 h=>by simpa[↓Ob c1,P1,Nd.txt] using h
     ·exact bad' (by simp;lia)
    ·simp[E7,O2,B3,A0q,↓Ob hx,↓Ob st.cell,↓Ls h1,h2.1,ha];split
     ·split
      ·exact bad' (by simp;lia)
      ·exact good (by simp;lia) _ λr H1 d1 l1 m c1 h=>by simpa[↓Ob c1,P1,Nd.txt] using h
     ·exact bad' (by simp;lia)
   ·have i1: ¬(kind:Int)<2:=by lia
    have i2:(6:Int)<=(kind:Int):=by lia
    simp[E7,O2,B3,↓Ob hx,↓Ob st.cell,↓Ls h1,h2.1,ha,i1,i2];exact bad' (by simp;lia)
 ·have e:Kt (B5 D) (.make kind a c x)=(B5 D,.num (-2)):=by simp[Kt,A0G,B2,no ha]
  simp[E7,B3,↓Ob hx,↓Ob st.cell,↓Ls h1,h2.1,ha];exact q.num' hd ok (A5.refl _) e
structure PH where
 c:Con
 k:Int
 t:Nat
def N8(f:Nat->Int)(h:PH):List Kcp0.Flow:=Lq (λ_=>f) h.c h.t h.k
noncomputable def D4(f:Nat->Int)(h:PH):List PH:=match h.c with
 |.both a b=>[⟨a,h.k,h.t⟩,⟨b,h.k,h.t⟩]
 |.turn a=>[⟨a,-h.k,h.t⟩]
 |.times e a=>[⟨a,h.k*Z0 f e,h.t⟩]
 |.if_ b x y=>[⟨if evB f b then x else y,h.k,h.t⟩]
 |.at_ d a=>if h.t<=d then[⟨a,h.k,d⟩] else[]
 |.when_ d b a=>if h.t<=d/\evB f b=true then[⟨a,h.k,h.t⟩] else[]
 |_=>[]
theorem J5(f:Nat->Int): ∀e,Lx (λj=>some (f j)) e=some (Z0 f e)
 |.num z=>rfl
 |.seen k=>rfl
 |.add a b=>by simp[Lx,J5 f a,J5 f b,Z0]
 |.sub a b=>by simp[Lx,J5 f a,J5 f b,Z0]
 |.mul a b=>by simp[Lx,J5 f a,J5 f b,Z0]
theorem T4(f:Nat->Int): ∀e,Lp (λj=>some (f j)) e=some (evB f e)
 |.le a b=>by simp[Lp,J5 f a,J5 f b,evB]
 |.lt a b=>by simp[Lp,J5 f a,J5 f b,evB]
 |.not_ a=>by simp[Lp,T4 f a,evB]
 |.all_ a b=>by simp[Lp,T4 f a,T4 f b,evB]
 |.some_ a b=>by simp[Lp,T4 f a,T4 f b,evB]
def B3j(t d:Nat)(v:Bool):((List.range (d+1)).find? λr=>decide (t<=r)&&v)=if t<=d/\v=true then some t else none:=by
 cases v with
 |false=>simp
 |true=>
  dsimp[Bool.and_true,and_true];split
  ·rename_i h;rw[List.find?_range_eq_some];simp
   lia
  ·rename_i h;rw[List.find?_eq_none];intro r hr;simp at hr ⊢
   lia
def B3i(f:Nat->Int)(h:PH)(h1: ∀u,h.c≠ .one u):N8 f h=(D4 f h).flatMap (N8 f):=by
 obtain⟨c,k,t⟩:=h
 cases c with
 |one u=>exact Gn rfl (h1 u)
 |nothing=>simp[N8,D4,Lq]
 |both a b=>simp[N8,D4,Lq]
 |or_ a b=>simp[N8,D4,Lq]
 |turn a=>simp[N8,D4,Lq]
 |times e a=>simp[N8,D4,Lq,J5]
 |if_ b x y=>dsimp[N8,D4,Lq,T4];cases evB f b<;>simp[N8]
 |at_ d a=>dsimp[N8,D4,Lq];split<;>simp[N8]
 |when_ d b a=>
  dsimp[N8,D4,Lq,T4,Option.getD_some];rw[B3j];by_cases hc:t<=d/\evB f b=true
  ·dsimp[Gf hc];simp[N8]
  ·dsimp[Gd hc];rfl
 |any_ d a=>simp[N8,D4,Lq]
def szh(q:List PH):Nat:=(q.map λh=>Ku h.c).sum
structure OkH(h:PH):Prop where
 wf:E5 h.c=true
 po:(A9 h.c).length<=1000
 k:h.k.natAbs<2^(31*(1001 - (A9 h.c).length))
def A7O{x m n:Nat}(h:x<2^m)(hm:m<=n):x<2^n:=Gv h (Hu (by decide) hm)
def B5F{f:Nat->Int}(hf: ∀k,(f k).natAbs<=1000000){h:PH}(ok:OkH h):(∀j∈D4 f h,OkH j)/\szh (D4 f h)<Ku h.c:=by
 obtain⟨c,k,t⟩:=h;obtain⟨w,p,hk⟩:=ok;simp only at w p hk;have mk: ∀(a:Con)(k:Int)(t:Nat),E5 a=true->(A9 a).length<=1000->k.natAbs<2^(31*(1001 - (A9 a).length))->OkH ⟨a,k,t⟩:=λ_ _ _ a b c=>⟨a,b,c⟩
 cases c with
 |one u=>simp[D4,szh,Ku]
 |nothing=>simp[D4,szh,Ku]
 |or_ a b=>simp[D4,szh,Ku]<;>lia
 |any_ d a=>simp[D4,szh,Ku]<;>lia
 |both a b=>
  simp[E5,A9]at w p hk;refine⟨λj hj=>?_,by simp[D4,szh,Ku]<;>lia⟩;simp[D4]at hj;rcases hj with rfl|rfl
  ·exact mk _ _ _ w.1 (by lia) (A7O hk (by lia))
  ·exact mk _ _ _ w.2 (by lia) (A7O hk (by lia))
 |turn a=>simp[E5,A9]at w p hk;refine⟨λj hj=>?_,by simp[D4,szh,Ku]<;>lia⟩;simp[D4]at hj;subst hj;exact mk _ _ _ w (by lia) (by rw[Int.natAbs_neg];exact A7O hk (by lia))
 |times e a=>simp[E5,A9]at w p hk;refine⟨λj hj=>?_,by simp[D4,szh,Ku]<;>lia⟩;simp[D4]at hj;subst hj;refine mk _ _ _ w.2 (by lia) ?_;rw[Int.natAbs_mul];have h1:=N3 hf e w.1;have h2:=P8 e;have:=Nat.mul_lt_mul'' hk h1;rw[<-Nat.pow_add]at this;exact A7O this (by lia)
 |if_ b x y=>
  simp[E5,A9]at w p hk;dsimp[D4];cases evB f b
  ·refine⟨λj hj=>?_,by simp[szh,Ku]<;>lia⟩;simp at hj;subst hj;exact mk _ _ _ w.2 (by lia) (A7O hk (by lia))
  ·refine⟨λj hj=>?_,by simp[szh,Ku]<;>lia⟩;simp at hj;subst hj;exact mk _ _ _ w.1.2 (by lia) (A7O hk (by lia))
 |at_ d a=>
  simp[E5,A9]at w p hk;dsimp[D4];split
  ·refine⟨λj hj=>?_,by simp[szh,Ku]<;>lia⟩;simp at hj;subst hj;exact mk _ _ _ w.2 (by lia) (A7O hk (by lia))
  ·simp[szh,Ku]<;>lia
 |when_ d b a=>
  simp[E5,A9]at w p hk;dsimp[D4];split
  ·refine⟨λj hj=>?_,by simp[szh,Ku]<;>lia⟩;simp at hj;subst hj;exact mk _ _ _ w.2 (by lia) (A7O hk (by lia))
  ·simp[szh,Ku]<;>lia
def z1:(1:Nat)<=sizeLine:=by decide
def z2:(2:Nat)<=sizeLine:=by decide
inductive A1n(H:Hp)(a:Nh)(h:PH):Prop
 |mk(dx p:Nh)(_:H a=some (.ins ad.D5 dx (A0w (.ref p) (.int h.k) (.int h.t))))(_:B0 H p (.con h.c))
def A1n.ext{H H':Hp}(s:O8 H H'){a:Nh}{i:PH}(h:A1n H a i):A1n H' a i:=by obtain⟨dx,p,h1,h2⟩:=h;exact⟨dx,p,s _ _ h1 (B3f ..),h2.ext s⟩
inductive B40(vs:List V)(H:Hp)(Q:VK)(E:XK):Prop
 |mk(a l:Nh)(h:PH)(f:Nat->Int)(_:vs=[.ref a,.ref l])(_:A1n H a h)(_:OkH h)(_:(∀k,(f k).natAbs<=1000000))(_:H l=some (.lst ((List.range 8).map λk=>.int (f k))))(_:(∀u,h.c≠ .one u))(_: ∀H' r as,A5 H H'->H r=none->H' r=some (.lst (as.map V.ref))->C1 (A1n H') as (D4 f h)->Q (.ref r) H')
def B3z:T.A6O.C T base 3 (B40):=by
 refine T.A6O.g T (G5 _ _) [none,none,none,none] (by nomatch A12 T,B2o T) ?_;obtain⟨a,l,⟨c,k,t⟩,f,rfl,⟨dx,p,h1,pp⟩,ok,hf,hl,hn,q⟩;obtain⟨d1,l1,ks,c1,c2,c3⟩:=pp.cell;obtain⟨w,po,hk⟩:=ok;simp only at w po hk c1 c3 pp h1 hn q;have nil:D4 f ⟨c,k,t⟩=[]->(0:Nat)<=sizeLine/\∀p,H p=none->Q (.ref p) (upd H p (.lst [])):=λe=>⟨by decide,λp hp=>q _ p [] (A5.new hp) hp (by simp) (by rw[e];exact .nil)⟩;have nil': ∀H1,A5 H H1->D4 f ⟨c,k,t⟩=[]->∀p,H1 p=none->Q (.ref p) (upd H1 p (.lst [])):=λH1 s e p hp=>q _ p [] (s.trans (A5.new hp)) (s.free hp) (by simp) (by rw[e];exact .nil);have one: ∀H1 x h',A5 H H1->A1n H1 x h'->D4 f ⟨c,k,t⟩=[h']->∀p,H1 p=none->Q (.ref p) (upd H1 p (.lst [.ref x])):=λH1 x h' s hx e p hp=>q _ p [x] (s.trans (A5.new hp)) (s.free hp) (by simp) (by rw[e];exact .cons (hx.ext (A5.new hp).ext) .nil)
 cases c with
 |one u=>exact Gn rfl (hn u)
 |nothing=>simp[G5,↓Ob h1,↓Ob c1];exact nil' H (A5.refl _) rfl
 |or_ a b=>simp[G5,↓Ob h1,↓Ob c1];exact nil' H (A5.refl _) rfl
 |any_ d a=>simp[G5,↓Ob h1,↓Ob c1];exact nil' H (A5.refl _) rfl
 |both a b=>
  obtain⟨x,y,rfl,px,py⟩:=c3.two;simp[G5,↓Ob h1,↓Ob c1,↓Tp c2];intro z dz hz hdz _;refine C7 hz hdz rfl λH2 s2 hn2=>⟨rfl,?_⟩;simp[↓Tp (s2 _ _ c2)];intro z' dz' hz' hdz' _;refine C7 hz' hdz' rfl λH3 s3 hn3=>⟨rfl,z2,λp hp=>?_⟩;have s4:=A5.new (o:=.lst [.ref z,.ref z']) hp;have e1:A1n H3 z ⟨a,k,t⟩:=⟨dz,x,s3 _ _ hn2,px.mono (s2.trans s3)⟩
  have e2:A1n H3 z' ⟨b,k,t⟩:=⟨dz',y,hn3,py.mono (s2.trans s3)⟩
  exact q _ p [z,z'] ((s2.trans s3).trans s4) ((s2.trans s3).free hp) (by simp) (.cons (e1.ext s4.ext) (.cons (e2.ext s4.ext) .nil))
 |turn a=>obtain⟨x,rfl,px⟩:=c3.one;simp[G5,↓Ob h1,↓Ob c1,↓Tp c2];intro z dz hz hdz _;refine C7 hz hdz rfl λH2 s2 hn2=>⟨rfl,z1,one H2 z ⟨a,-k,t⟩ s2 ⟨dz,x,hn2,px.mono s2⟩ rfl⟩
 |times e a=>obtain⟨x,y,rfl,px,py⟩:=c3.two;simp[E5,A9]at w po hk;simp[G5,↓Ob h1,↓Ob c1,↓Tp c2];refine⟨x,l,.exp e,f,rfl,px,rfl,w.1,by simp[Nd.post];lia,hf,hl,λH1 s1=>?_⟩;simp[val];have hb:=N3 hf e w.1;have hl:=P8 e;refine⟨⟨A8C (m:=31*1001) (A7O hk (by lia)) (A7O hb (by lia)) (by lia)⟩,?_⟩;intro z dz hz hdz _;refine C7 hz hdz rfl λH2 s2 hn2=>⟨rfl,z1,one H2 z ⟨a,k*Z0 f e,t⟩ (s1.trans s2) ⟨dz,y,hn2,py.mono (s1.trans s2)⟩ rfl⟩
 |if_ b u v=>
  obtain⟨x,y,y',rfl,px,py,py'⟩:=c3.three;simp[E5,A9]at w po hk;simp[G5,↓Ob h1,↓Ob c1,↓Tp c2];refine⟨x,l,.cnd b,f,rfl,px,rfl,w.1.1,by simp[Nd.post];lia,hf,hl,λH1 s1=>?_⟩
  cases hb:evB f b with
  |true=>simp[val,hb,↓Tp (s1 _ _ c2)];intro z dz hz hdz _;refine C7 hz hdz rfl λH2 s2 hn2=>⟨rfl,z1,one H2 z ⟨u,k,t⟩ (s1.trans s2) ⟨dz,y,hn2,py.mono (s1.trans s2)⟩ (by simp[D4,hb])⟩
  |false=>simp[val,hb,↓Tp (s1 _ _ c2)];intro z dz hz hdz _;refine C7 hz hdz rfl λH2 s2 hn2=>⟨rfl,z1,one H2 z ⟨v,k,t⟩ (s1.trans s2) ⟨dz,y',hn2,py'.mono (s1.trans s2)⟩ (by simp[D4,hb])⟩
 |at_ d a=>
  obtain⟨x,y,rfl,px,py⟩:=c3.two;obtain⟨d2,l2,k2,e1,_⟩:=px.cell;by_cases h:t<=d
  ·have h':(t:Int)<=(d:Int):=by lia
   simp[G5,↓Ob h1,↓Ob c1,↓Tp c2,↓Ob e1,Nd.val,h'];intro z dz hz hdz _;refine C7 hz hdz rfl λH2 s2 hn2=>⟨rfl,z1,one H2 z ⟨a,k,d⟩ s2 ⟨dz,y,hn2,py.mono s2⟩ (by simp[D4,h])⟩
  ·have h': ¬(t:Int)<=(d:Int):=by lia
   simp[G5,↓Ob h1,↓Ob c1,↓Tp c2,↓Ob e1,Nd.val,h'];exact nil' H (A5.refl _) (by simp[D4,h])
 |when_ d b a=>
  obtain⟨x,y,y',rfl,px,py,py'⟩:=c3.three;obtain⟨d2,l2,k2,e1,_⟩:=px.cell;simp[E5,A9]at w po hk;by_cases h:t<=d
  ·have h':(t:Int)<=(d:Int):=by lia
   simp[G5,↓Ob h1,↓Ob c1,↓Tp c2,↓Ob e1,Nd.val,h'];refine⟨y,l,.cnd b,f,rfl,py,rfl,w.1.2,by simp[Nd.post];lia,hf,hl,λH1 s1=>?_⟩
   cases hb:evB f b with
   |true=>simp[val,hb,↓Tp (s1 _ _ c2)];intro z dz hz hdz _;refine C7 hz hdz rfl λH2 s2 hn2=>⟨rfl,z1,one H2 z ⟨a,k,t⟩ (s1.trans s2) ⟨dz,y',hn2,py'.mono (s1.trans s2)⟩ (by simp[D4,hb,h])⟩
   |false=>simp[val,hb];exact nil' H1 s1 (by simp[D4,hb])
  ·have h': ¬(t:Int)<=(d:Int):=by lia
   simp[G5,↓Ob h1,↓Ob c1,↓Tp c2,↓Ob e1,Nd.val,h'];exact nil' H (A5.refl _) (by simp[D4,h])
def A7w(H:Hp)(a:Nh)(x:Kcp0.Flow):Prop:=H a=some (.tup [.int x.day,.int x.unit,.int x.much])
def A7w.ext{H H':Hp}(s:O8 H H'){a:Nh}{i:Kcp0.Flow}(h:A7w H a i):A7w H' a i:=s _ _ h trivial
def A1B(h:PH)(q:List PH):szh (h::q)=Ku h.c+szh q:=by simp[szh]
def B3V(p q:List PH):szh (p++q)=szh p+szh q:=by simp[szh]
def B3U(q:List PH):q.length<=szh q:=by
 induction q with
 |nil=>simp[szh]
 |cons i q ih=>rw[A1B];have:=P6 i.c;simp;lia
inductive TrI(p l td st:Nh)(t:Nat)(c:Con)(f:Nat->Int)(H:Hp)(m:Nat)(S:L2.St)(H':Hp):Prop
 |mk(v5:Option V)(q':List PH)(qa sa:List Nh)(acc:List Kcp0.Flow)(_:S=[some (.ref p),some (.int t),some (.ref l),some (.ref td),some (.ref st),v5])(_:A5 H H')(_:H' td=some (.lst (qa.reverse.map V.ref)))(_:H' st=some (.lst (sa.map V.ref)))(_:C1 (A1n H') qa q')(_:C1 (A7w H') sa acc)(_: ∀i∈q',OkH i)(_:acc++q'.flatMap (N8 f)=N8 f ⟨c,1,t⟩)(_:acc.length+szh q'<=1000)(_:m=szh q'):TrI p l td st t c f H m S H'
inductive B9j(vs:List V)(H:Hp)(Q:VK)(E:XK):Prop
 |mk(p l:Nh)(c:Con)(t:Nat)(f:Nat->Int)(_:vs=[.ref p,.int t,.ref l])(_:B0 H p (.con c))(_:okC c)(_:Ku c<=1000)(_:(∀k,(f k).natAbs<=1000000))(_:H l=some (.lst ((List.range 8).map λk=>.int (f k))))(_: ∀H' r as,A5 H H'->H' r=some (.lst (as.map V.ref))->C1 (A7w H') as (N8 f ⟨c,1,t⟩)->(N8 f ⟨c,1,t⟩).length<=1000->Q (.ref r) H')
def C0y:T.B4v.C T base 4 (B9j):=by
 refine T.B4v.g T (B4L _ _) [none,none,none] (by nomatch B2o T,B3z T) ?_;obtain⟨p,l,c,t,f,rfl,pp,ok,hsz,hf,hl,q⟩;have hz:sizeLine=16777216:=rfl;simp[B4L];intro x dx hx hdx _;refine C7 hx hdx rfl λH1 s1 hc1=>⟨rfl,z1,λtd htd=>?_⟩;simp;intro st hst;simp;have e2:=s1.trans (A5.new (o:=.lst [.ref x]) htd);have e3:=e2.trans (A5.new (o:=.lst []) hst);have htd0:H td=none:=s1.free htd;have hst0:H st=none:=e2.free hst;have nts:td≠st:=A2 A3 hst;have hv:A1n (upd (upd H1 td (.lst [.ref x])) st (.lst [])) x ⟨c,1,t⟩:=by refine A1n.ext ((A5.new (o:=.lst [.ref x]) htd).trans (A5.new hst)).ext ⟨dx,p,hc1,pp.mono s1⟩
 have ok0:OkH ⟨c,1,t⟩:=⟨ok.1,ok.2,by show(1:Int).natAbs<_;exact Gv (show(1:Int).natAbs<2^1 by decide) (Hu (by decide) (by have:=ok.2;show 1<=31*(1001 - (A9 c).length);lia))⟩
 refine A9C (TrI p l td st t c f H)
  (szh [⟨c,1,t⟩]) ⟨none,[⟨c,1,t⟩],[x],[],[],rfl,e3,?_,A3,.cons hv .nil,.nil,by simpa using ok0,by simp,by simp[szh];exact hsz,rfl⟩ ?_
 ·rw[A4 nts,A3];rfl
 ·rintro m S H' ⟨v5,q',qa,sa,acc,rfl,sm,h1,h2,a1,a2,ok',ew,hb,rfl⟩
  cases q' with
  |nil=>
   have hqa:qa=[]:=by have:=a1.1;simpa using this
   subst hqa;refine⟨false,λQ q=>by simpa[↓Ls h1] using q,.inr ⟨rfl,?_⟩⟩;simp;simp at ew;exact q H' st sa sm h2 (by rw[<-ew];exact a2) (by rw[<-ew];simp[szh]at hb;exact hb)
  |cons i q'=>
   match qa,a1 with
   |[],a1=>have:=a1.1;simp at this
   |a::qa,a1=>
    obtain⟨hi,a1⟩:=a1.inv;refine⟨true,λQ q=>by simpa[↓Ls h1] using q,.inl ⟨rfl,λN hN=>?_⟩⟩;obtain⟨rl,hrl⟩: ∃rl,rl=qa.reverse.map V.ref:=⟨_,rfl⟩
    have h1':H' td=some (.lst (rl++[.ref a])):=by rw[h1,hrl];simp
    obtain⟨dx,p',g1,g2⟩:=hi;obtain⟨d1,l1,ks,c1,c2,c3⟩:=g2.cell;have nat_:a≠td:=U0 g1 h1 (by intro z;cases z);have npt:p'≠td:=U0 c1 h1 (by intro z;cases z);have nlt:l1≠td:=U0 c2 h1 (by intro z;cases z);have x0:O8 H' (upd H' td (.lst rl)):=(O8.refl H').updL h1;have s0:A5 H (upd H' td (.lst rl)):=sm.over htd0;have hoki:=ok' i (by simp);have hokq: ∀j∈q',OkH j:=λj hj=>ok' j (Gh _ hj);have hsp:=P6 i.c;rw[A1B]at hb;have hst1:(upd H' td (.lst rl)) st=some (.lst (sa.map V.ref)):=by rw[A4 nts.symm];exact h2
    by_cases hone: ∃u,i.c=.one u
    ·obtain⟨u,hu⟩:=hone;rw[hu]at c1 c3;obtain⟨y,rfl,py⟩:=c3.one;obtain⟨d2,l2,k2,e1,_⟩:=py.cell;have nyt:y≠td:=U0 e1 h1 (by intro z;cases z);simp[↓Ls h1',↓N0 nat_,↓Ob g1,↓N0 npt,↓Ob c1];have hfl:N8 f i=if i.k=0 then[] else[⟨i.t,u,i.k⟩]:=by simp[N8,hu,Lq]
     by_cases hk:i.k=0
     ·rw[Gf hk]at hfl;simp[hk];refine hN (szh q') _ _ (by rw[A1B];lia) ⟨_,q',qa,sa,acc,rfl,s0,by rw[A3,hrl],hst1,a1.imp λ_ _ z=>z.ext x0,a2.imp λ_ _ z=>z.ext x0,hokq,?_,by lia,rfl⟩;rw[Ic,hfl]at ew;exact ew
     ·rw[Gd hk]at hfl;simp[hk,↓iL hst1,↓N0 nat_,↓Ob g1,↓N0 npt,↓Ob c1,↓Tpn nlt,↓Tp c2,↓N0 nyt,↓Ob e1];refine⟨by decide,λr hr=>?_⟩;have s3:=A5.new (o:=.tup [.int i.t,.int (Nd.unit u).val,.int i.k]) hr;simp[↓Ls (s3 _ _ hst1)];have l2:=a2.1;refine⟨by lia,?_⟩;have xF:O8 H' (upd (upd (upd H' td (.lst rl)) r (.tup [.int i.t,.int (Nd.unit u).val,.int i.k])) st (.lst (sa.map V.ref++[.ref r]))):=(x0.trans s3.ext).updL (s3 _ _ hst1);have nsr:st≠r:=A2 hst1 hr;have ntr:td≠r:=A2 A3 hr;refine hN (szh q') _ _ (by rw[A1B];lia) ⟨_,q',qa,sa++[r],acc++[⟨i.t,u,i.k⟩],rfl,(s0.trans s3).over hst0,?_,?_,a1.imp λ_ _ z=>z.ext xF,?_,hokq,?_,by simp;lia,rfl⟩
      ·rw[A4 nts,A4 ntr,A3,hrl]
      ·rw[A3];simp
      ·refine(a2.imp λ_ _ z=>z.ext xF).append (.cons ?_ .nil);show upd _ st _ r=_;rw[A4 nsr.symm,A3];rfl
      ·rw[Ic,hfl]at ew;rw[<-ew];simp
    ·have hne: ∀u,i.c≠ .one u:=λu e=>hone ⟨u,e⟩;have hw:(Nd.con i.c).wd≠"one":=by intro e;cases hc:i.c<;>rw[hc]at e<;>simp at e;exact hne _ hc
     obtain⟨o1,o2⟩:=B5F hf hoki;have hl':(upd H' td (.lst rl)) l=some (.lst ((List.range 8).map λk=>.int (f k))):=s0 _ _ hl;have ht1:(upd H' td (.lst rl)) td=some (.lst rl):=A3;simp[↓Ls h1',↓N0 nat_,↓Ob g1,↓N0 npt,↓Ob c1,hw];refine⟨a,l,i,f,rfl,A1n.ext x0 ⟨dx,p',g1,g2⟩,hoki,hf,hl',hne,λH2 r bs e1 hr0 hr aj=>?_⟩;simp[↓Ls hr];intro r2 hr2;have e2:=e1.trans (A5.new (o:=.lst (bs.map V.ref).reverse) hr2);have ht2:H2 td=some (.lst rl):=e1 _ _ A3;have ntr:td≠r2:=A2 ht2 hr2;simp[↓Ls (e2 _ _ A3)];have lb:=aj.1;have lq:=a1.1;have hsq:=B3U q';have hsj:=B3U (D4 f i);have hlr:rl.length=qa.length:=by rw[hrl];simp
     refine⟨by lia,?_⟩;have x2:O8 H2 (upd (upd H2 r2 (.lst (bs.map V.ref).reverse)) td (.lst (rl++(bs.map V.ref).reverse))):=(A5.new (o:=.lst (bs.map V.ref).reverse) hr2).ext.updL (by rw[A4 ntr];exact ht2);have xF:=(x0.trans e1.ext).trans x2;refine hN (szh (D4 f i++q')) _ _ (by rw[A1B,B3V];lia) ⟨_,D4 f i++q',bs++qa,sa,acc,rfl,(s0.trans e2).over htd0,?_,?_,(aj.imp λ_ _ z=>z.ext x2).append (a1.imp λ_ _ z=>z.ext xF),a2.imp λ_ _ z=>z.ext xF,?_,?_,?_,rfl⟩
     ·rw[A3,hrl];simp
     ·rw[A4 nts.symm];exact e2 _ _ hst1
     ·exact λj hj=>(Gp.mp hj).elim (o1 j) (hokq j)
     ·rw[Ic,B3i f i hne]at ew;rw[<-ew];simp
     ·rw[B3V];lia
theorem J1: ∀c,Ku c<=(A9 c).length
 |.nothing=>Gi _
 |.one _=>by simp[Ku,A9]
 |.both a b=>by have:=J1 a;have:=J1 b;simp[Ku,A9];lia
 |.or_ a b=>by have:=J1 a;have:=J1 b;simp[Ku,A9];lia
 |.turn a=>by have:=J1 a;simp[Ku,A9];lia
 |.times _ a=>by have:=J1 a;simp[Ku,A9];lia
 |.if_ _ a b=>by have:=J1 a;have:=J1 b;simp[Ku,A9];lia
 |.at_ _ a=>by have:=J1 a;simp[Ku,A9];lia
 |.when_ _ _ a=>by have:=J1 a;simp[Ku,A9];lia
 |.any_ _ a=>by have:=J1 a;simp[Ku,A9];lia
inductive C4i(vs:List V)(H:Hp)(Q:VK)(E:XK):Prop
 |mk(d dx b u l:Nh)(D:PD)(c t:Nat)(ws:List Int)(_:vs=[.ref d,.int c,.int t,.ref l])(_:G6 H d dx b u D)(_:OkD D)(_:H l=some (.lst (ws.map V.int)))(_:ws.length=8)(_:A0Y H d dx b u D (.trial c t ws) Q)
def C3P{ws:List Int}(h:ws.length=8):ws.map V.int=(List.range 8).map λk=>.int (ws.getD k 0):=by refine List.ext_getElem (by simp[h]) λi h1 h2=>?_;simp at h1;simp[h1]
def okW(v:Int):Bool:=decide (-1000000<=v)&&decide (v<=1000000)
def B5J:T.A8K.C T base 5 (C4i):=by
 refine T.A8K.g (N:=["desk","c","day","worths","promise","payments","told","payment","value"]) T (A2p _ _ _) [none,none,none,none,none] (by nomatch C0y T,J8 T,A11 T) ?_;obtain⟨d,dx,b,u,l,D,n,t,ws,rfl,hd,ok,hl,hw,q⟩;have q:=q.to;obtain⟨s,A,hx,st⟩:=hd.st;obtain⟨ps,h1,h2⟩:=st.shelf;by_cases hn:n<D.now.shelf.length
 ·generalize hc:D.now.shelf[n]=c;have e:D.now.shelf[n]?=some c:=by simp[hn,hc]
  obtain⟨a,ha,pa⟩:=h2.at e;have oc:=ok.now.shC c (Gw e)
  have eq:Kt (B5 D) (.trial n t ws)=if 1000<t\/ws.length≠8\/ws.any (λv=>decide (1000000<v)||decide (v< -1000000))=true then(B5 D,.num (-22)) else if Lv c=false then(B5 D,.num (-33)) else
    if 400<(N8 (λk=>ws.getD k 0) ⟨c,1,t⟩).length\/(N8 (λk=>ws.getD k 0) ⟨c,1,t⟩).any (λy=>Lu y.much)=true then(B5 D,.num (-75)) else(B5 D,.some_ (N8 (λk=>ws.getD k 0) ⟨c,1,t⟩).length ((N8 (λk=>ws.getD k 0) ⟨c,1,t⟩).flatMap λy=>[(y.day:Int),(y.unit:Int),y.much])):=by
   dsimp[Kt,A0G,B2,e,N8];rfl
  rw[eq]at q;by_cases ht:1000<t
  ·rw[Gf (.inl ht)]at q;have ht':(1000:Int)<(t:Int):=by lia
   simp[A2p,B3,↓Ob hx,↓Ob st.cell,↓Ls h1,h2.1,hn,ht'];exact q.num hd ok (A5.refl _)
  ·have ht': ¬(1000:Int)<(t:Int):=by lia
   simp[A2p,B3,↓Ob hx,↓Ob st.cell,↓Ls h1,h2.1,hn,ht',↓Ls hl];refine A0S (F3 λH' s=>s _ _ hl) (λv=>match v with|.int i=>some (.bl (okW i))|_=>none) (by simp[hw];decide) ?_ λZ hZ=>?_
   ·intro x hx H' s Y N q;simp at hx;obtain⟨i,hi,rfl⟩:=hx;simp at q;simp[M1];unfold okW at q;by_cases hi: -1000000<=i
    ·dsimp[hi,decide_true,Kd]at q;rw[Gf hi];exact q
    ·dsimp[hi,decide_false,Bool.false_and]at q;rw[Gd hi];exact q
   ·have eb:List.filterMap (λv=>match v with|V.int i=>some (V.bl (okW i))|_=>none) (ws.map V.int)=(ws.map okW).map V.bl:=by
     have: ∀ws:List Int,List.filterMap (λv=>match v with|V.int i=>some (V.bl (okW i))|_=>none) (ws.map V.int)=(ws.map okW).map V.bl:=by
      intro ws
      induction ws with
      |nil=>rfl
      |cons x r ih=>dsimp[Gm,Ib];rw[ih]
     exact this ws
    rw[eb];obtain⟨bs,hbs⟩: ∃bs,bs=ws.map okW:=⟨_,rfl⟩
    rw[<-hbs];simp;refine⟨bs,rfl,?_⟩;have hba:false∈bs↔ws.all okW=false:=by rw[hbs,Ip,List.all_eq_false];simp
    have s1:=A5.new (o:=.lst (bs.map V.bl)) hZ;have ew:ws.any (λv=>decide (1000000<v)||decide (v< -1000000))=!(ws.all okW):=by rw[List.not_all_eq_any_not];congr 1;funext v;unfold okW;by_cases h1:1000000<v<;>by_cases h2:v< -1000000<;>simp[h1,h2]<;>lia
    rw[ew]at q
    cases hall:ws.all okW with
    |false=>rw[hall,Gf (by simp)]at q;rw[Gf (hba.mpr hall)];exact q.num hd ok s1
    |true=>
     rw[hall,Gd (by simp;lia)]at q;rw[Gd (λh=>by rw[hba,hall]at h;cases h)];obtain⟨d1,l1,ks,c1,c2,c3⟩:=pa.cell;have ga:atI (ps.map V.ref) (n:Int)=some (.ref a):=by rw[M4];simp[ha]
     simp[↓Ob (s1 _ _ hx),↓Ob (s1 _ _ st.cell),↓Ls (s1 _ _ h1),↓gX ga,↓Ob (s1 _ _ c1)];have hpl:(Nd.con c).plain=Lv c:=rfl;rw[hpl]
     cases hp:Lv c with
     |false=>rw[hp,Gf rfl]at q;simp;exact q.num hd ok s1
     |true=>
      rw[hp,Gd (by decide)]at q;simp;have hfk: ∀k,(ws.getD k 0).natAbs<=1000000:=λk=>by
       by_cases hk:k<ws.length
       ·have:=Iw.mp hall (ws[k]) (by simp);simp[okW]at this;simp[hk];lia
       ·simp[hk]
      have hsz:=J1 c;have hoc:=oc.2;refine⟨a,l,c,t,λk=>ws.getD k 0,rfl,pa.mono s1,oc.okC,by lia,hfk,by rw[<-C3P hw];exact s1 _ _ hl,λH2 r as s2 hr hfl hlen=>?_⟩;generalize hg:N8 (λk=>ws.getD k 0) ⟨c,1,t⟩=fl at q hfl hlen;simp[↓Ls hr];refine⟨by decide,λtold htold=>?_⟩;have s3:=s2.trans (A5.new (o:=.lst [.int as.length]) htold);have S3:=s1.trans s3;have hr3:=(A5.new (o:=.lst [.int as.length]) htold) _ _ hr;simp[↓Ls hr3];have lfl:=hfl.1;have hlt: ∀i,((fl.take i).flatMap λy=>[V.int y.day,V.int y.unit,V.int y.much]).length<=3000:=λi=>by
       have h3: ∀l:List Kcp0.Flow,(l.flatMap λy=>[V.int y.day,V.int y.unit,V.int y.much]).length=3*l.length:=λl=>by
        induction l with
        |nil=>rfl
        |cons x r ih=>rw[Ic,Gg,ih];simp;lia
       rw[h3];have h5:(fl.take i).length<=fl.length:=by rw[Iv];lia
       lia
      refine Y9 (F3 (G:=λH'=>H' r=some (.lst (as.map V.ref))) λH' e=>e) (λi S H'=>(∃o o2,S=[some (.ref d),some (.int n),some (.int t),some (.ref l),some (.ref a),some (.ref r),some (.ref told),o,o2])/\H'=upd H2 told (.lst ((.int as.length::(fl.take i).flatMap λy=>[.int y.day,.int y.unit,.int y.much])))/\∀y∈fl.take i,Lu y.much=false) ⟨⟨_,_,rfl⟩,by simp,by simp⟩ ?_ ?_ ?_
      ·rintro i S H' ⟨_,rfl,_⟩;rw[A4 (A2 hr htold)];exact hr
      ·rintro i x S H' hi ⟨⟨o,o2,rfl⟩,rfl,hbig⟩ N hN;rw[Ha]at hi;obtain⟨y,hy,rfl⟩:=Hh.mp hi;obtain⟨it,e,yc⟩:=hfl.get hy;have htk:fl.take (i+1)=fl.take i++[it]:=by rw[Hz,e];rfl
       have nyt:y≠told:=A2 yc htold;have htb:Lu it.much=decide ((1000000000000:Int)<if it.much<0 then -it.much else it.much):=by unfold Lu Kcp0.HIGH;by_cases h1:it.much<0<;>by_cases h2:1000000000000<it.much<;>by_cases h3:it.much< -1000000000000<;>simp[h1,h2,h3]<;>lia
       simp[↓Tpn nyt,↓Tp yc];by_cases hb:(1000000000000:Int)<if it.much<0 then -it.much else it.much
       ·rw[Gf hb];rw[Gf (.inr (List.any_eq_true.mpr ⟨it,Gw e,by rw[htb];simpa using hb⟩))]at q;exact q.num hd ok ((s1.trans s2).trans (A5.new htold))
       ·rw[Gd hb];refine⟨?_,hN _ _ ⟨⟨_,_,rfl⟩,?_,?_⟩⟩
        ·have:=hlt i;rw[List.length_flatMap]at this;exact big (by simp at this;lia)
        ·rw[htk];simp
        ·rw[htk];intro y hy;rcases Gp.mp hy with h|h
         ·exact hbig y h
         ·rw[Gq.mp h,htb];simpa using hb
      ·rintro S H' ⟨⟨o,o2,rfl⟩,rfl,hbig⟩;have nr:r≠told:=A2 hr htold;simp[↓Lsn nr,↓Ls hr];simp[lfl]at hbig ⊢;by_cases h4:400<fl.length
       ·rw[Gf (.inl h4)]at q;rw[Gf (by lia)];exact q.num hd ok ((s1.trans s2).trans (A5.new htold))
       ·rw[Gd (λh=>by
         rcases h with h|h
         ·exact h4 h
         ·obtain⟨y,hy,h⟩:=List.any_eq_true.mp h;rw[hbig y hy]at h;cases h)]at q
        rw[Gd (by lia)];have hS:=(s1.trans s2).trans (A5.new (o:=.lst (.int fl.length::fl.flatMap λy=>[.int y.day,.int y.unit,.int y.much])) htold);refine q _ b u told D (.of hS) (.inl rfl) (.inl rfl) ok rfl (.inl ((s1.trans s2).free htold)) ?_ (hd.mono hS);rw[A3];simp[Kcp0Neutral.tell,List.map_flatMap]
 ·simp[A2p,B3,↓Ob hx,↓Ob st.cell,↓Ls h1,h2.1,hn];exact q.num' hd ok (A5.refl _) (by simp[Kt,A0G,B2,He (Ia hn)])
def SA.dis_ne{A:SA}(h:A.dis):(A.l1≠A.l2/\A.l1≠A.l3/\A.l1≠A.l4/\A.l1≠A.l5)/\(A.l2≠A.l3/\A.l2≠A.l4/\A.l2≠A.l5)/\(A.l3≠A.l4/\A.l3≠A.l5)/\A.l4≠A.l5:=by unfold SA.dis at h;simpa using h
def D3.upd2{H:Hp}{s:Nh}{A:SA}{S:PS}(st:D3 H s A S)(hd:A.dis){as:List Nh}{ds:List Kcp0.Deal}(h:C1 (A1e H) as ds):D3 (upd H A.l2 (.lst (as.map V.ref))) s A {S with deals:=ds}:=by obtain⟨⟨d12,d13,d14,d15⟩,⟨d23,d24,d25⟩,⟨d34,d35⟩,d45⟩:=SA.dis_ne hd;have n2:=st.ne_l.2.1;obtain⟨c0,⟨a1,b1,c1⟩,⟨a2,b2,c2⟩,⟨a3,b3,c3⟩,⟨a4,b4,c4⟩,w⟩:=st;have ex:O8 H (upd H A.l2 (.lst (as.map V.ref))):=(O8.refl _).updL b2;exact⟨by rw[A4 n2];exact c0,⟨a1,by rw[A4 d12];exact b1,c1.imp λ_ _ q=>q.ext ex⟩,⟨as,A3,h.imp λ_ _ q=>q.ext ex⟩,⟨a3,by rw[A4 d23.symm];exact b3,c3.imp λ_ _ q=>q.ext ex⟩,⟨a4,by rw[A4 d24.symm];exact b4,c4.imp λ_ _ q=>q.ext ex⟩,by rw[A4 d25.symm];exact w⟩
def D3.upd5{H:Hp}{s:Nh}{A:SA}{S:PS}(st:D3 H s A S)(hd:A.dis)(f:Nat->Int):D3 (upd H A.l5 (.lst ((List.range 8).map λk=>.int (f k)))) s A {S with wv:=f}:=by obtain⟨⟨d12,d13,d14,d15⟩,⟨d23,d24,d25⟩,⟨d34,d35⟩,d45⟩:=SA.dis_ne hd;have n5:=st.ne_l.2.2.2.2;obtain⟨c0,⟨a1,b1,c1⟩,⟨a2,b2,c2⟩,⟨a3,b3,c3⟩,⟨a4,b4,c4⟩,w⟩:=st;have ex:O8 H (upd H A.l5 (.lst ((List.range 8).map λk=>.int (f k)))):=(O8.refl _).updL w;exact⟨by rw[A4 n5];exact c0,⟨a1,by rw[A4 d15];exact b1,c1.imp λ_ _ q=>q.ext ex⟩,⟨a2,by rw[A4 d25];exact b2,c2.imp λ_ _ q=>q.ext ex⟩,⟨a3,by rw[A4 d35];exact b3,c3.imp λ_ _ q=>q.ext ex⟩,⟨a4,by rw[A4 d45];exact b4,c4.imp λ_ _ q=>q.ext ex⟩,A3⟩
def D3.setP{H:Hp}{s p:Nh}{A:SA}{S:PS}(st:D3 H s A S){as:List Nh}{is:List PI}(hp:H p=some (.lst (as.map V.ref)))(h:C1 (C8 H) as is):
  D3 (upd H s (.ins ad.A7 A.dx (D8 ("pending":Str) (.ref p) (sF A S)))) s {A with l3:=p} {S with items:=is}:=by
 obtain⟨n1,n2,n3,n4,n5⟩:=st.ne_l;have ex:O8 H (upd H s (.ins ad.A7 A.dx (D8 ("pending":Str) (.ref p) (sF A S)))):=(O8.refl _).updI st.cell (A6a A S);have np:p≠s:=U0 hp st.cell (by intro z;cases z);have e:D8 ("pending":Str) (.ref p) (sF A S)=sF {A with l3:=p} {S with items:=is}:=by unfold sF;rw[A0P]
 obtain⟨c0,⟨a1,b1,c1⟩,⟨a2,b2,c2⟩,⟨a3,b3,c3⟩,⟨a4,b4,c4⟩,w⟩:=st;exact⟨by rw[A3,e],⟨a1,by rw[A4 n1.symm];exact b1,c1.imp λ_ _ q=>q.ext ex⟩,⟨a2,by rw[A4 n2.symm];exact b2,c2.imp λ_ _ q=>q.ext ex⟩,⟨as,by rw[A4 np];exact hp,h.imp λ_ _ q=>q.ext ex⟩,⟨a4,by rw[A4 n4.symm];exact b4,c4.imp λ_ _ q=>q.ext ex⟩,by rw[A4 n5.symm];exact w⟩
def A4v{A:SA}{H:Hp}(h:A.fresh H){p:Nh}(hp:H p=none):SA.fresh {A with l3:=p} H:=by unfold SA.fresh at h ⊢;simp at h ⊢;exact⟨h.1,h.2.1,hp,h.2.2.2.1,h.2.2.2.2⟩
def A39{l:List PI}{n:Nat}(h: ∀i∈l,okS i.c)(hn:l.length<=n):F1 l<=600*n:=by
 have:F1 l<=600*l.length:=by
  clear hn
  induction l with
  |nil=>simp[F1]
  |cons i l ih=>rw[J4];have h1:=ih λj hj=>h j (Gh _ hj);have h2:=J1 i.c;have h3:=(h i (by simp)).2;simp;lia
 have:600*l.length<=600*n:=Nat.mul_le_mul_left _ hn
 lia
section
variable{H H1:Hp}{d dx b u s l:Nh}{D:PD}{A:SA}{S:PS}{as:List Nh}{q:List PI}{v:Int}{Q Q2:VK}
def B8i(hd:G6 H d dx b u D)(ok:OkD D)(s1:A5 H H1)(hs:H s=none)(ha:A.fresh H)(dis:A.dis)(st:D3 H1 s A S)(hl:H1 l=some (.lst (as.map V.ref)))(hq:C1 (C8 H1) as q)(hlen:q.length<=48)(ao:V3 S q)(tq:ToQ H d dx b u (Ly (B5 D) (Mh (B2 S) (q.map (G8 S.day))) v) Q)(no: ∀H2,A5 H H2->(1:Nat)<=sizeLine/\(∀p,H2 p=none->Q (.ref p) (upd H2 p (.lst [.int (-75)])))->Q2 (.bl false) H2)(yes: ∀H2 S' A',A5 H H2->D3 H2 s A' S'->(∀Q3:VK,(∀H3,D3 H3 s A' S'->(∀p,H3 p=none->Q (.ref p) (upd H3 p (.lst [.int v])))->Q3 .non H3)->A9X [.ref d,.ref s] H2 Q3 E0)->B8Q S S' (F1 S.items+F1 q)->Q2 (.bl true) H2):B6G [.ref s,.ref l] H1 Q2 E0:=by
 rw[C3r ao]at tq;have hz:=A39 (λi hi=>(ao.qk i hi).c) hlen;have hp:=ao.ok.pays;have hi:=ao.ok.items;have kpS: ∀{H2},Kp [s,A.l4] H1 H2->A5 H H2:=λk=>A5.kp s1 k λx hx=>by
  simp at hx;rcases hx with rfl|rfl
  ·exact hs
  ·exact ha A.l4 (by simp)
 refine⟨s,l,A,S,as,q,rfl,st,dis,hl,hq,λi hi=>(ao.qk i hi).c.okC,ao.ok.wv,by lia,by lia,λhw H2 k2=>?_,λS' hw H2 l3 k2 hl3 st2=>?_⟩
 ·have e:wkR S q=none:=by unfold wkR;rw[hw];rfl
  rw[e]at tq;exact no H2 (kpS k2) (ToQ.num (D:=D) tq hd ok (kpS k2))
 ·have e:=A5X hw;by_cases hb:S'.items.length<=48/\S'.pays.length<=400
  ·rw[Gf hb]at e;rw[e]at tq;dsimp[hb.1,hb.2,decide_true,Bool.and_self];have g:=(A2e ao e).2.2;exact yes H2 S' _ (kpS k2) st2 (λQ3 h=>A4s hd ok g.ok (kpS k2) hs (A4v ha (s1.free hl3)) st2 tq h) g
  ·rw[Gd hb]at e;rw[e]at tq;have:(decide (S'.items.length<=48)&&decide (S'.pays.length<=400))=false:=by by_cases h1:S'.items.length<=48<;>by_cases h2:S'.pays.length<=400<;>simp[h1,h2]<;>exact Gn ⟨h1,h2⟩ hb
   rw[this];exact no H2 (kpS k2) (ToQ.num (D:=D) tq hd ok (kpS k2))
def C1i(hd:G6 H d dx b u D)(ok:OkD D)(s1:A5 H H1)(hs:H s=none)(ha:A.fresh H)(dis:A.dis)(st:D3 H1 s A S)(oS:OkS S)(tq:ToQ H d dx b u (Ly (B5 D) (Mw (B2 S)) v) Q)(no: ∀H2,A5 H H2->(1:Nat)<=sizeLine/\(∀p,H2 p=none->Q (.ref p) (upd H2 p (.lst [.int (-75)])))->Q2 (.bl false) H2)(yes: ∀H2 S' A',A5 H H2->D3 H2 s A' S'->(∀Q3:VK,(∀H3,D3 H3 s A' S'->(∀p,H3 p=none->Q (.ref p) (upd H3 p (.lst [.int v])))->Q3 .non H3)->A9X [.ref d,.ref s] H2 Q3 E0)->B8Q (bare S) S' (F1 S.items)->Q2 (.bl true) H2):A8p [.ref s] H1 Q2 E0:=by
 rw[B43 oS]at tq;have ao:=V3.all oS;have hz:=A39 (λi hi=>(ao.qk i hi).c) oS.items;have hp:=oS.pays;have kpS: ∀{H2},Kp [s,A.l4] H1 H2->A5 H H2:=λk=>A5.kp s1 k λx hx=>by
  simp at hx;rcases hx with rfl|rfl
  ·exact hs
  ·exact ha A.l4 (by simp)
 refine⟨s,A,S,rfl,st,dis,λi hi=>(ao.qk i hi).c.okC,oS.wv,by lia,λhw H2 k2=>?_,λS' hw H2 l3 k2 hl3 st2=>?_⟩
 ·have e:wkR (bare S) S.items=none:=by unfold wkR bare;rw[hw];rfl
  rw[e]at tq;exact no H2 (kpS k2) (ToQ.num (D:=D) tq hd ok (kpS k2))
 ·have e:=A5X (S:=bare S) hw;by_cases hb:S'.items.length<=48/\S'.pays.length<=400
  ·rw[Gf hb]at e;rw[e]at tq;dsimp[hb.1,hb.2,decide_true,Bool.and_self];have g:=(A2e ao e).2.2;have g':B8Q (bare S) S' (F1 S.items):=⟨g.ok,g.n,g.day,g.shelf,g.deals,g.sf,g.wv,by have:=g.sz;simpa[bare,F1] using this⟩
   exact yes H2 S' _ (kpS k2) st2 (λQ3 h=>A4s hd ok g.ok (kpS k2) hs (A4v ha (s1.free hl3)) st2 tq h) g'
  ·rw[Gd hb]at e;rw[e]at tq;have:(decide (S'.items.length<=48)&&decide (S'.pays.length<=400))=false:=by by_cases h1:S'.items.length<=48<;>by_cases h2:S'.pays.length<=400<;>simp[h1,h2]<;>exact Gn ⟨h1,h2⟩ hb
   rw[this];exact no H2 (kpS k2) (ToQ.num (D:=D) tq hd ok (kpS k2))
end
def B2h:T.A43.C T base 7 (C1T .sign):=by
 refine T.A43.g T (Q6 _ _ _ _ _ _) [none,none,none] (by nomatch W4 T,M0 T,J8 T,B3A T,A3b T,A67 T) ?_;obtain⟨d,dx,b,u,D,ho,ot,n,rfl,hd,ok,q⟩;have q:=q.to;obtain⟨s,A,hx,st⟩:=hd.st;obtain⟨ps,h1,h2⟩:=st.shelf;obtain⟨ds,g1,g2⟩:=st.deals;by_cases hn:n<D.now.shelf.length
 ·generalize hc:D.now.shelf[n]=c;have e:D.now.shelf[n]?=some c:=by simp[hn,hc]
  obtain⟨a,ha,pa⟩:=h2.at e;have oc:=ok.now.shC c (Gw e);have ga:atI (ps.map V.ref) (n:Int)=some (.ref a):=by rw[M4];simp[ha]
  have eq:Kt (B5 D) (.sign ho ot n)=if(decide (ho<D.now.n))=false\/(decide (ot<D.now.n))=false\/ho=ot then(B5 D,.num (-22)) else if 16<=D.now.deals.length then(B5 D,.num (-28)) else
    Ly (B5 D) (Mh (B2 {D.now with deals:=D.now.deals++[⟨ho,ot,D.now.day,none,false⟩]}) [⟨0,D.now.deals.length,ho,ot,1,c,false⟩]) D.now.deals.length:=by
   dsimp[Kt,A0G,B2,e];rfl
  rw[eq]at q;by_cases hw:ho<D.now.n/\ot<D.now.n/\ho≠ot
  ·rw[Gd (by simp[hw])]at q;have i1: ¬(D.now.n:Int)<=(ho:Int):=by lia
   have i2: ¬(D.now.n:Int)<=(ot:Int):=by lia
   have i3: ¬(ho:Int)=(ot:Int):=by lia
   by_cases hf:16<=D.now.deals.length
   ·rw[Gf hf]at q;have i4:(16:Int)<=(D.now.deals.length:Int):=by lia
    simp[Q6,B3,↓Ob hx,↓Ob st.cell,↓Ls h1,h2.1,hn,i1,i2,i3,↓Ls g1,g2.1,i4];exact q.num hd ok (A5.refl _)
   ·rw[Gd hf]at q;have i4: ¬(16:Int)<=(D.now.deals.length:Int):=by lia
    simp[Q6,B3,↓Ob hx,↓Ob st.cell,↓Ls h1,h2.1,hn,i1,i2,i3,↓Ls g1,g2.1,i4];refine⟨s,A,D.now,rfl,st,λH1 s' A' s1 hs' hf' hdis st'=>?_⟩;obtain⟨ds',g1',g2'⟩:=st'.deals;simp[↓Ob st'.cell,↓iL g1',↓Ob (s1 _ _ st.cell)];intro z dz hz hdz _;refine C7 hz hdz rfl λH2 s2 hn2=>?_;simp[↓Ls (s2 _ _ g1')];have ld:=g2'.1;refine⟨A8c (by lia),?_⟩;have dAt:A1e H2 z ⟨ho,ot,D.now.day,none,false⟩:=⟨dz,.non,hn2,λ_=>rfl⟩
    have st2:=(st'.mono s2).upd2 hdis (as:=ds'++[z]) (ds:=D.now.deals++[⟨ho,ot,D.now.day,none,false⟩]) ((g2'.imp λ_ _ q=>q.ext s2.ext).append (.cons dAt .nil));dsimp[Ix,Gm,Ij]at st2;have s3:A5 H (upd H2 A'.l2 (.lst (ds'.map V.ref++[.ref z]))):=A5.kp (s1.trans s2) ((Kp.refl [A'.l2] _).upd (.inl (by simp))) (by simpa using hf' A'.l2 (by simp));simp[↓Ob (s3 _ _ st.cell),↓Ls (s3 _ _ h1),↓gX ga];intro y dy hy hdy _;refine C7 hy hdy rfl λH4 s4 hn4=>?_;simp;refine⟨by decide,λl hl=>?_⟩;have s5:=s4.trans (A5.new (o:=.lst [.ref y]) hl);have hoS:=ok.now;have oS:OkS {D.now with deals:=D.now.deals++[⟨ho,ot,D.now.day,none,false⟩]}:=⟨hoS.n,hoS.shelf,hoS.shC,by simp;lia,hoS.items,λi hi=>by have oi:=hoS.itI i hi;exact⟨oi.c,oi.k,oi.no,oi.lk,oi.lw⟩,hoS.srt,hoS.pays,hoS.pyU,hoS.wv⟩
    have it:C8 H4 y ⟨0,D.now.deals.length,ho,ot,1,c,-1⟩:=⟨dy,a,hn4,pa.mono (s3.trans s4)⟩
    refine B8i (Q:=Q) (v:=D.now.deals.length) (q:=[⟨0,D.now.deals.length,ho,ot,1,c,-1⟩]) (as:=[y]) hd ok (s3.trans s5) hs' hf' hdis (st2.mono s5) A3 (.cons (it.ext (A5.new hl).ext) .nil) (by simp) ?_ ?_ ?_ ?_
    ·refine⟨oS,by simp,by simp,by simp,?_,by simp⟩;intro i hi;rw[Gq.mp hi];exact⟨oc,by show(-1:Int)<=_;lia,λe=>Gn e (A0v _)⟩
    ·simpa[G8,A0v] using q
    ·intro H6 s6 h;simp;exact h
    ·intro H6 S' A6 s6 st6 kp g;simp;refine kp _ λH7 st7 h=>?_;exact⟨of_decide_eq_true rfl,h⟩
  ·rw[Gf (by simp;lia)]at q;by_cases i1:(D.now.n:Int)<=(ho:Int)
   ·simp[Q6,B3,↓Ob hx,↓Ob st.cell,↓Ls h1,h2.1,hn,i1];exact q.num hd ok (A5.refl _)
   ·by_cases i2:(D.now.n:Int)<=(ot:Int)
    ·simp[Q6,B3,↓Ob hx,↓Ob st.cell,↓Ls h1,h2.1,hn,i1,i2];exact q.num hd ok (A5.refl _)
    ·have i3:(ho:Int)=(ot:Int):=by lia
     simp[Q6,B3,↓Ob hx,↓Ob st.cell,↓Ls h1,h2.1,hn,i1,i2,i3];exact q.num hd ok (A5.refl _)
 ·simp[Q6,B3,↓Ob hx,↓Ob st.cell,↓Ls h1,h2.1,hn];exact q.num' hd ok (A5.refl _) (by simp[Kt,A0G,B2,He (Ia hn)])
inductive A8r(vs:List V)(H:Hp)(Q:VK)(E:XK):Prop
 |mk(a:Nh)(i:PI)(h o:Nat)(_:vs=[.ref a,.int h,.int o])(_:C8 H a i)(_: ∀H' x,A5 H H'->C8 H' x {i with holder:=h,other:=o}->Q (.ref x) H')
noncomputable def A0f(k who to:Nat)(i:PI):PI:=if i.deal=k then {i with holder:=Ld who to i.holder,other:=Ld who to i.other} else i
inductive C1L(vs:List V)(H:Hp)(Q:VK)(E:XK):Prop
 |mk(a:Nh)(i:PI)(k who to:Nat)(_:vs=[.ref a,.int k,.int who,.int to])(_:C8 H a i)(_: ∀H' x,A5 H H'->C8 H' x (A0f k who to i)->Q (.ref x) H')
def C1.set{S:Type}{R:Nh->S->Prop}{as:List Nh}{xs:List S}(h:C1 R as xs)(n:Nat){a:Nh}{x:S}(r:R a x):C1 R (as.set n a) (xs.set n x):=by
 refine⟨by simp[h.1],λi b y p q=>?_⟩;rw[List.getElem?_set]at p q;split at p
 ·rename_i e;rw[Gf e]at q;split at p
  ·split at q
   ·cases p;cases q;exact r
   ·cases q
  ·cases p
 ·rename_i e;rw[Gd e]at q;exact h.2 i b y p q
def A62:T.A1U.C T base 3 (A8r):=by refine T.A1U.g T (A18 _) [none] (by nomatch A67 T) ?_;obtain⟨a,i,h,o,rfl,⟨di,p,c1,c2⟩,q⟩;simp[A18,↓Ob c1];intro z dz hz hdz _;refine C7 hz hdz rfl λH1 s1 hn1=>⟨rfl,?_⟩;have na:a≠z:=A2 c1 hz;simp[↓Ob (s1 _ _ c1),↓Ob hn1,B7x,↓N0 na];refine q _ z (s1.over hz) ⟨dz,p,A3,?_⟩;exact c2.mono (s1.over hz)
def B0w:T.A3H.C T base 4 (C1L):=by
 refine T.A3H.g T (R7 _ _) [] (by nomatch A62 T,B14 T) ?_;obtain⟨a,i,k,who,to,rfl,ia,q⟩;have ia':=ia;obtain⟨di,p,c1,c2⟩:=ia;by_cases hk:i.deal=k
 ·have hk':(i.deal:Int)=(k:Int):=by lia
  have e:A0f k who to i={i with holder:=Ld who to i.holder,other:=Ld who to i.other}:=by unfold A0f;rw[Gf hk]
  rw[e]at q;have P3: ∀h o:Nat,h=Ld who to i.holder->o=Ld who to i.other->A8r [.ref a,.int h,.int o] H Q E0:=λh o e1 e2=>⟨a,i,h,o,rfl,ia',λH' x s it=>q H' x s (by rw[<-e1,<-e2];exact it)⟩;by_cases h1:i.holder=who<;>by_cases h2:i.other=who
  ·have j1:(i.holder:Int)=(who:Int):=by lia
   have j2:(i.other:Int)=(who:Int):=by lia
   simp[R7,O0,↓Ob c1,hk',j1,j2];exact P3 to to (by simp[Ld,h1]) (by simp[Ld,h2])
  ·have j1:(i.holder:Int)=(who:Int):=by lia
   have j2: ¬(i.other:Int)=(who:Int):=by lia
   simp[R7,O0,↓Ob c1,hk',j1,j2];exact P3 to i.other (by simp[Ld,h1]) (by simp[Ld,h2])
  ·have j1: ¬(i.holder:Int)=(who:Int):=by lia
   have j2:(i.other:Int)=(who:Int):=by lia
   simp[R7,O0,↓Ob c1,hk',j1,j2];exact P3 i.holder to (by simp[Ld,h1]) (by simp[Ld,h2])
  ·have j1: ¬(i.holder:Int)=(who:Int):=by lia
   have j2: ¬(i.other:Int)=(who:Int):=by lia
   simp[R7,O0,↓Ob c1,hk',j1,j2];exact P3 i.holder i.other (by simp[Ld,h1]) (by simp[Ld,h2])
 ·have hk': ¬(i.deal:Int)=(k:Int):=by lia
  have e:A0f k who to i=i:=by unfold A0f;rw[Gd hk]
  rw[e]at q;simp[R7,↓Ob c1,hk'];exact q H a (A5.refl _) ia'
def B49(S:PS)(k who to:Nat):(S.items.map (A0f k who to)).map (G8 S.day)=(S.items.map (G8 S.day)).map λi=>if i.deal=k then {i with holder:=Ld who to i.holder,other:=Ld who to i.other} else i:=by
 rw[Iu,Iu];apply Ir;intro i _;dsimp[Function.comp,A0f];by_cases h:i.deal=k
 ·rw[Gf h,Gf (by exact h)];rfl
 ·rw[Gd h,Gd (by exact h)]
def B90{S:PS}{ds:List Kcp0.Deal}(h:OkS S)(hd:ds.length<=16)(k who to:Nat):OkS {S with deals:=ds,items:=S.items.map (A0f k who to)}:=by
 have key: ∀i,(A0f k who to i).no=i.no/\(A0f k who to i).c=i.c/\(A0f k who to i).k=i.k/\(A0f k who to i).lk=i.lk:=λi=>by unfold A0f;split<;>simp
 refine⟨h.n,h.shelf,h.shC,hd,by simp;exact h.items,λi hi=>?_,?_,h.pays,h.pyU,h.wv⟩
 ·obtain⟨j,hj,rfl⟩:=Ip.mp hi;have oj:=h.itI j hj;obtain⟨e1,e2,e3,e4⟩:=key j;exact⟨by rw[e2];exact oj.c,by rw[e3];exact oj.k,by rw[e1];exact oj.no,by rw[e4];exact oj.lk,by rw[e4,e2];exact oj.lw⟩
 ·show(S.items.map _).Pairwise _;rw[List.pairwise_map];exact h.srt.imp λ{a b} hab=>by rw[(key a).1,(key b).1];exact hab
def B1B{l:Nh}{g:Nat}{e:DE}{S:L2.St}{H1:Hp}{Q:VK}{is:List Nh}{its:List PI}(F:PI->PI)(hl:H1 l=some (.lst (is.map V.ref)))(hi:C1 (C8 H1) is its)(hn:its.length<=1000)(turn: ∀a i H',C8 H' a i->∀Y:VK,(∀H'' x,A5 H' H''->C8 H'' x (F i)->Y (.ref x) H'')->A4e S g (.ref a) fun S'=>D2 K e S' H' Y)(done: ∀Z H' as,H1 Z=none->A5 H1 H'->H' Z=some (.lst (as.map V.ref))->C1 (C8 H') as (its.map F)->Q (.ref Z) H'):lcB K (Itl K l) g .z e [g] S H1 Q:=by
 refine A09 (F3 (G:=λH'=>H' l=some (.lst (is.map V.ref))) λH' e=>e) (by simp;exact A8c (by rw[hi.1];lia)) (λZ i acc H'=>H1 Z=none/\A5 H1 H'/\H' Z=some (.lst acc)/\i<=its.length/\∃as,acc=as.map V.ref/\C1 (C8 H') as ((its.take i).map F)) (λZ hZ=>⟨hZ,A5.new hZ,A3,Il _,[],rfl,by simpa using C1.nil⟩) ?_ ?_ ?_
 ·rintro Z i acc H' ⟨hZ,s,hc,hle,as,rfl,ha⟩;refine⟨s _ _ hl,hc,?_⟩;have:=ha.1;simp at this ⊢
  lia
 ·rintro Z i x acc H' hZ hx ⟨_,s,hc,hle,as,rfl,ha⟩ Y N hY hN;rw[Ha]at hx;obtain⟨a,hax,rfl⟩:=Hh.mp hx;obtain⟨it,e,ia⟩:=hi.get hax;have hlt:i<its.length:=(Hl.mp e).1;have ht:its.take (i+1)=its.take i++[it]:=by rw[Hz,e];rfl
  have:=turn a it H' (ia.ext s.ext) Y λH'' x s2 ix=>?_
  ·simpa using this
  ·have hc2:=s2 _ _ hc;have ex:O8 H'' (upd H'' Z (.lst (as.map V.ref++[.ref x]))):=(O8.refl _).updL hc2;refine hY _ _ hc2 ⟨hZ,(s.trans s2).over hZ,A3,hlt,as++[x],by simp,?_⟩;rw[ht,Ix];exact(ha.imp λ_ _ q=>q.ext (s2.ext.trans ex)).append (.cons (ix.ext ex) .nil)
 ·rintro Z acc H' hZ ⟨_,s,hc,hle,as,rfl,ha⟩;rw[Gz,hi.1,Ho]at ha;exact done Z H' as hZ s hc ha
inductive C1J(vs:List V)(H:Hp)(Q:VK)(E:XK):Prop
 |mk(a ddx:Nh)(x y z v:V)(h o w:Nat)(_:vs=[.ref a,.int w])(_:H a=some (.ins ad.G1 ddx (A1W (.int h) (.int o) x y z)))(_:Q (.bl (decide (w=h\/w=o))) H)
def B8x:T.A8X.C T base 1 (C1J):=by
 refine T.A8X.g T (A9n) [] (λ_ _=>trivial) ?_;obtain⟨a,ddx,x,y,z,v,h,o,w,rfl,dc,q⟩;simp[A9n,↓Ob dc];by_cases h1:w=h
 ·have h1':(w:Int)=(h:Int):=by lia
  rw[Gf h1'];simpa[h1] using q
 ·have h1': ¬(w:Int)=(h:Int):=by lia
  rw[Gd h1'];have e:decide (w=h\/w=o)=decide ((w:Int)=(o:Int)):=by
   by_cases h2:w=o
   ·simp[h2]
   ·have: ¬(w:Int)=(o:Int):=by lia
    simp[h1,h2,this]
  rw[e]at q;exact q
inductive B9k(vs:List V)(H:Hp)(Q:VK)(E:XK):Prop
 |mk(p who to:Nat)(_:vs=[.int p,.int who,.int to])(_:Q (.int (Ld who to p:Nat)) H)
def C0z:T.A27.C T base 1 B9k:=by
 refine T.A27.g T (O0) [] (λ_ _=>trivial) ?_;obtain⟨p,who,to,rfl,q⟩;by_cases h:p=who
 ·have h':(p:Int)=(who:Int):=by lia
  simp[O0,h'];simpa[Ld,h] using q
 ·have h': ¬(p:Int)=(who:Int):=by lia
  simp[O0,h'];simpa[Ld,h] using q
def A8b:T.A2M.C T base 5 (C1T .assign):=by
 refine T.A2M.g (N:=["desk","who","k","to","deal","changed","item"]) T (W7 _ _ _ _ _ _ _) [none,none,none] (by nomatch B8x T,W4 T,B3A T,M0 T,A10 T,C0z T,B0w T) ?_;obtain⟨d,dx,b,u,D,who,n,to,rfl,hd,ok,q⟩;have q:=q.to;obtain⟨s,A,hx,st⟩:=hd.st;obtain⟨ds,g1,g2⟩:=st.deals;have oS:=ok.now;by_cases hn:n<D.now.deals.length
 ·generalize hc:D.now.deals[n]=dl;have e:D.now.deals[n]?=some dl:=by simp[hn,hc]
  obtain⟨a,ha,ddx,wv,dc,dw⟩:=g2.at e;have ga:atI (ds.map V.ref) (n:Int)=some (.ref a):=by rw[M4];simp[ha]
  have eq:Kt (B5 D) (.assign who n to)=if(decide (to<D.now.n))=false then(B5 D,.num (-22)) else if who≠dl.holder/\who≠dl.other then(B5 D,.num (-1)) else if to=dl.holder\/to=dl.other then(B5 D,.num (-17)) else if dl.over=true then(B5 D,.num (-16)) else
    Mg (B5 D) (B2 {D.now with deals:=D.now.deals.set n {dl with holder:=Ld who to dl.holder,other:=Ld who to dl.other,wants:=none},items:=D.now.items.map (A0f n who to)}) 0:=by
   unfold B2;dsimp[B49];dsimp[Kt,A0G,B2,e];rfl
  rw[eq]at q;by_cases ht:to<D.now.n
  ·have i1: ¬(D.now.n:Int)<=(to:Int):=by lia
   rw[Gd (by simp[ht])]at q;simp[W7,O1,↓Ob hx,↓Ob st.cell,↓Ls g1,g2.1,hn,i1,↓gX ga];refine⟨a,ddx,_,_,_,.non,dl.holder,dl.other,who,rfl,dc,?_⟩;by_cases hs:who≠dl.holder/\who≠dl.other
   ·rw[Gf hs]at q;simp[hs];exact q.num hd ok (A5.refl _)
   ·rw[Gd hs]at q;have hs':who=dl.holder\/who=dl.other:=by lia
    rw[Hv hs'];simp;refine⟨a,ddx,_,_,_,.non,dl.holder,dl.other,to,rfl,dc,?_⟩;by_cases hs2:to=dl.holder\/to=dl.other
    ·rw[Gf hs2]at q;rw[Hv hs2];simp;exact q.num hd ok (A5.refl _)
    ·rw[Gd hs2]at q;rw[Hk hs2];simp[↓Ob dc]
     cases hov:dl.over with
     |true=>rw[Gf hov]at q;simp;exact q.num hd ok (A5.refl _)
     |false=>
      rw[Gd (by rw[hov];decide)]at q;rw[hov]at dc;simp[↓Ob hx];refine⟨s,A,D.now,rfl,st,λH1 s' A' s1 hs' hf' hdis st'=>?_⟩;obtain⟨ds',g1',g2'⟩:=st'.deals;simp[↓Ob (s1 _ _ dc)];refine⟨dl.holder,who,to,rfl,?_⟩;simp[↓Ob (s1 _ _ dc)];refine⟨dl.other,who,to,rfl,?_⟩;simp[↓Ob (s1 _ _ dc)];intro z dz hz hdz _;refine C7 hz hdz rfl λH2 s2 hn2=>⟨rfl,?_⟩;simp[↓Ob (s2 _ _ st'.cell)];have ld:=g2'.1;refine⟨ds'.map V.ref,s2 _ _ g1',n,by simp[ld];exact B1C hn,?_⟩;have dAt:A1e H2 z {dl with holder:=Ld who to dl.holder,other:=Ld who to dl.other,wants:=none}:=⟨dz,.non,by rw[hn2];simp[A6i,hov],λ_=>rfl⟩
      have st2:=(st'.mono s2).upd2 hdis (as:=ds'.set n z) ((g2'.imp λ_ _ q=>q.ext s2.ext).set n dAt);rw[List.map_set]at st2;have s3:A5 H (upd H2 A'.l2 (.lst ((ds'.map V.ref).set n (.ref z)))):=A5.kp (s1.trans s2) ((Kp.refl [A'.l2] _).upd (.inl (by simp))) (by simpa using hf' A'.l2 (by simp));obtain⟨is,j1,j2⟩:=st2.items;have j2:C1 (C8 (upd H2 A'.l2 (.lst ((ds'.map V.ref).set n (.ref z))))) is D.now.items:=j2;simp[↓Ob st2.cell,↓Ls j1];refine B1B (A0f n who to) j1 j2 (by have:=oS.items;lia) (λa i H' ia Y hY=>?_) λZ H4 as hZ s4 hc4 ha4=>?_
      ·simp;exact⟨a,i,n,who,to,rfl,ia,hY⟩
      ·have hlF:(sF A' {D.now with deals:=D.now.deals.set n {dl with holder:=Ld who to dl.holder,other:=Ld who to dl.other,wants:=none}}).length=9:=rfl;simp[↓Ob (s4 _ _ st2.cell),hlF];have st4:=(st2.mono s4).setP hc4 ha4;have s5:=s3.trans s4;have s6:A5 H (upd H4 s' (.ins ad.A7 A'.dx (D8 ("pending":Str) (.ref Z) (sF A' {D.now with deals:=D.now.deals.set n {dl with holder:=Ld who to dl.holder,other:=Ld who to dl.other,wants:=none}})))):=s5.over hs';refine A4s hd ok (B90 oS (by simp;exact oS.deals) n who to) s6 hs' (A4v hf' (s3.free hZ)) st4 q λH7 st7 h=>?_;exact⟨by decide,h⟩
  ·have i1:(D.now.n:Int)<=(to:Int):=by lia
   rw[Gf (by simp[ht])]at q;simp[W7,O1,↓Ob hx,↓Ob st.cell,↓Ls g1,g2.1,hn,i1];exact q.num hd ok (A5.refl _)
 ·simp[W7,O1,↓Ob hx,↓Ob st.cell,↓Ls g1,g2.1,hn];exact q.num' hd ok (A5.refl _) (by simp[Kt,A0G,B2,He (Ia hn)])
def B4d{l:Nh}{g:Nat}{t:DW}{e:DE}{S:L2.St}{H1:Hp}{Q:VK}{is:List Nh}{its:List PI}(p:PI->Bool)(hl:H1 l=some (.lst (is.map V.ref)))(hi:C1 (C8 H1) is its)(hn:its.length<=1000)(turn: ∀a i H',C8 H' a i->A5 H1 H'->∀(Y:VK)(N:Hp->Prop),(p i=true->Y (.ref a) H')->(p i=false->N H')->A4e S g (.ref a) fun S'=>B0k K t S' H' λb H3=>if b=true then D2 K e S' H3 Y else N H3)(done: ∀Z as,H1 Z=none->C1 (C8 H1) as (its.filter p)->Q (.ref Z) (upd H1 Z (.lst (as.map V.ref)))):lcB K (Itl K l) g t e [g] S H1 Q:=by
 refine A09 (F3 (G:=λH'=>H' l=some (.lst (is.map V.ref))) λH' e=>e) (by simp;exact A8c (by rw[hi.1];lia)) (λZ i acc H'=>H1 Z=none/\H'=upd H1 Z (.lst acc)/\acc.length<=i/\∃as,acc=as.map V.ref/\C1 (C8 H1) as ((its.take i).filter p)) (λZ hZ=>⟨hZ,rfl,Il _,[],rfl,by simpa using C1.nil⟩) ?_ ?_ ?_
 ·rintro Z i acc H' ⟨hZ,rfl,hle,as,rfl,ha⟩;exact⟨by rw[A4 (A2 hl hZ)];exact hl,A3,hle⟩
 ·rintro Z i x acc H' hZ hx ⟨_,rfl,hle,as,rfl,ha⟩ Y N hY hN;rw[Ha]at hx;obtain⟨a,hax,rfl⟩:=Hh.mp hx;obtain⟨it,e,ia⟩:=hi.get hax;have ht:its.take (i+1)=its.take i++[it]:=by rw[Hz,e];rfl
  have sm:A5 H1 (upd H1 Z (.lst (as.map V.ref))):=A5.new hZ;refine turn a it _ (ia.ext sm.ext) sm Y N (λh=>?_) λh=>?_
  ·refine hY _ _ A3 ⟨hZ,by simp,by simp at hle ⊢;lia,as++[a],by simp,?_⟩;rw[ht,Jx];dsimp[List.filter_cons,List.filter_nil,h,if_true];exact ha.append (.cons ia .nil)
  ·refine hN _ ⟨hZ,rfl,by lia,as,rfl,?_⟩;rw[ht,Jx];dsimp[List.filter_cons,List.filter_nil,h,Jb,if_false,Hw];exact ha
 ·rintro Z acc H' hZ ⟨_,rfl,hle,as,rfl,ha⟩;rw[Gz,hi.1,Ho]at ha;exact done Z as hZ ha
def B4t{S:PS}{ds:List Kcp0.Deal}(h:OkS S)(hd:ds.length<=16)(p:PI->Bool):OkS {S with deals:=ds,items:=S.items.filter p}:=
 ⟨h.n,h.shelf,h.shC,hd,Hc (Kn _ _) h.items,λi hi=>by have oi:=h.itI i (Kl.mp hi).1;exact⟨oi.c,oi.k,oi.no,oi.lk,oi.lw⟩,h.srt.filter _,h.pays,h.pyU,h.wv⟩
def B5C(S:PS)(k:Nat):(S.items.filter λi=>!(i.deal==k)).map (G8 S.day)=(S.items.map (G8 S.day)).filter λi=>!(i.deal==k):=by rw[List.filter_map];rfl
def B8m{S:PS}{ds:List Kcp0.Deal}(h:OkS S)(hd:ds.length<=16):OkS {S with deals:=ds}:=
 ⟨h.n,h.shelf,h.shC,hd,h.items,λi hi=>by have oi:=h.itI i hi;exact⟨oi.c,oi.k,oi.no,oi.lk,oi.lw⟩,h.srt,h.pays,h.pyU,h.wv⟩
def A8a:T.A2L.C T base 4 (C1U .cancel):=by
 refine T.A2L.g (N:=["desk","who","k","deal","over","changed","item"]) T (A0F _ _ _ _ _) [none,none,none,none] (by nomatch W4 T,B3A T,M0 T,A10 T,B8x T) ?_;obtain⟨d,dx,b,u,D,who,n,rfl,hd,ok,q⟩;have q:=q.to;obtain⟨s,A,hx,st⟩:=hd.st;obtain⟨ds,g1,g2⟩:=st.deals;have oS:=ok.now;by_cases hn:n<D.now.deals.length
 ·generalize hc:D.now.deals[n]=dl;have e:D.now.deals[n]?=some dl:=by simp[hn,hc]
  obtain⟨a,ha,ddx,wv,dc,dw⟩:=g2.at e;have ga:atI (ds.map V.ref) (n:Int)=some (.ref a):=by rw[M4];simp[ha]
  have eq:Kt (B5 D) (.cancel who n)=if who≠dl.holder/\who≠dl.other then(B5 D,.num (-1)) else if dl.over=true then(B5 D,.num (-16)) else match dl.wants with
    |none=>Mg (B5 D) (B2 {D.now with deals:=D.now.deals.set n {dl with wants:=some who}}) 0
    |some w=>if w=who then(B5 D,.num (-17)) else Mg (B5 D) (B2 {D.now with deals:=D.now.deals.set n {dl with over:=true},items:=D.now.items.filter λi=>!(i.deal==n)}) 1:=by
   unfold B2;dsimp[B5C];dsimp[Kt,A0G,B2,e];rfl
  rw[eq]at q;simp[A0F,O1,↓Ob hx,↓Ob st.cell,↓Ls g1,g2.1,hn,↓gX ga];refine⟨a,ddx,_,_,_,.non,dl.holder,dl.other,who,rfl,dc,?_⟩;by_cases hs:who≠dl.holder/\who≠dl.other
  ·rw[Gf hs]at q;simp[hs];exact q.num hd ok (A5.refl _)
  ·rw[Gd hs]at q;have hs':who=dl.holder\/who=dl.other:=by lia
   rw[Hv hs']
   cases hov:dl.over with
   |true=>rw[Gf hov]at q;rw[hov]at dc;simp[↓Ob dc];exact q.num hd ok (A5.refl _)
   |false=>
    rw[Gd (by rw[hov];decide)]at q;have hwv:=dw hov;rw[hov]at dc
    cases hw:dl.wants with
    |none=>
     rw[hw]at q hwv;simp only at q;have hwv:wv=.non:=hwv;subst hwv;simp[↓Ob dc];simp[↓Ob hx];refine⟨s,A,D.now,rfl,st,λH1 s' A' s1 hs' hf' hdis st'=>?_⟩;obtain⟨ds',g1',g2'⟩:=st'.deals;simp[↓Ob (s1 _ _ dc)];intro z dz hz hdz _;refine C7 hz hdz rfl λH2 s2 hn2=>⟨rfl,?_⟩;simp[↓Ob (s2 _ _ st'.cell)];have ld:=g2'.1;refine⟨ds'.map V.ref,s2 _ _ g1',n,by simp[ld];exact B1C hn,?_⟩;have dAt:A1e H2 z {dl with wants:=some who}:=⟨dz,.int who,by rw[hn2];simp[A6i,hov],λ_=>rfl⟩
     have st2:=(st'.mono s2).upd2 hdis (as:=ds'.set n z) ((g2'.imp λ_ _ q=>q.ext s2.ext).set n dAt);rw[List.map_set]at st2;have s3:A5 H (upd H2 A'.l2 (.lst ((ds'.map V.ref).set n (.ref z)))):=A5.kp (s1.trans s2) ((Kp.refl [A'.l2] _).upd (.inl (by simp))) (by simpa using hf' A'.l2 (by simp));refine A4s hd ok (B8m oS (by simp;exact oS.deals)) s3 hs' hf' st2 q λH7 st7 h=>?_;exact⟨by decide,h⟩
    |some v=>
     rw[hw]at q hwv;simp only at q;have hwv:wv=.int v:=hwv;subst hwv;by_cases hv:v=who
     ·rw[Gf hv]at q;have hv':(v:Int)=(who:Int):=by lia
      simp[↓Ob dc,hv'];exact q.num hd ok (A5.refl _)
     ·rw[Gd hv]at q;have hv': ¬(v:Int)=(who:Int):=by lia
      simp[↓Ob dc,hv'];simp[↓Ob hx];refine⟨s,A,D.now,rfl,st,λH1 s' A' s1 hs' hf' hdis st'=>?_⟩;obtain⟨ds',g1',g2'⟩:=st'.deals;simp[↓Ob (s1 _ _ dc)];intro z dz hz hdz _;refine C7 hz hdz rfl λH2 s2 hn2=>⟨rfl,?_⟩;simp[↓Ob (s2 _ _ st'.cell)];have ld:=g2'.1;refine⟨ds'.map V.ref,s2 _ _ g1',n,by simp[ld];exact B1C hn,?_⟩;have dAt:A1e H2 z {dl with over:=true}:=⟨dz,.int who,by rw[hn2];simp[A6i],λh=>by cases h⟩
      have st2:=(st'.mono s2).upd2 hdis (as:=ds'.set n z) ((g2'.imp λ_ _ q=>q.ext s2.ext).set n dAt);rw[List.map_set]at st2;have s3:A5 H (upd H2 A'.l2 (.lst ((ds'.map V.ref).set n (.ref z)))):=A5.kp (s1.trans s2) ((Kp.refl [A'.l2] _).upd (.inl (by simp))) (by simpa using hf' A'.l2 (by simp));obtain⟨is,j1,j2⟩:=st2.items;have j2:C1 (C8 (upd H2 A'.l2 (.lst ((ds'.map V.ref).set n (.ref z))))) is D.now.items:=j2;simp[↓Ob st2.cell,↓Ls j1];refine B4d (λi=>!(i.deal==n)) j1 j2 (by have:=oS.items;lia) (λa i H' ia _ Y N hY hN=>?_) λZ as hZ ha4=>?_
      ·obtain⟨di,pi,c1,c2⟩:=ia;by_cases hk:i.deal=n
       ·have hk':(i.deal:Int)=(n:Int):=by lia
        simp[↓Ob c1,hk'];exact hN (by simp[hk])
       ·have hk': ¬(i.deal:Int)=(n:Int):=by lia
        simp[↓Ob c1,hk'];exact hY (by simp[hk])
      ·have s4:=A5.new (o:=.lst (as.map V.ref)) hZ;have hlF:(sF A' {D.now with deals:=D.now.deals.set n {dl with over:=true}}).length=9:=rfl;simp[↓Ob (s4 _ _ st2.cell),hlF];have st4:=(st2.mono s4).setP A3 (ha4.imp λ_ _ q=>q.ext s4.ext);have s5:=s3.trans s4;rw[<-hw]at q;refine A4s hd ok (B4t oS (by simp;exact oS.deals) _) (s5.over hs') hs' (A4v hf' (s3.free hZ)) st4 q λH7 st7 h=>?_;exact⟨by decide,h⟩
 ·simp[A0F,O1,↓Ob hx,↓Ob st.cell,↓Ls g1,g2.1,hn];exact q.num' hd ok (A5.refl _) (by simp[Kt,A0G,B2,He (Ia hn)])
noncomputable def A06(S:PS)(o:Nat)(v:Int):PS:={S with sf:=λk=>S.sf k||(o==k),wv:=λk=>if k=o then v else S.wv k}
def A6d{S:Type}(f:Nat->S){o:Nat}(h:o<8)(x:S):((List.range 8).map f).set o x=(List.range 8).map λk=>if k=o then x else f k:=by refine List.ext_getElem (by simp) λi h1 h2=>?_;simp[List.getElem_set,eq_comm]
def B6Q(S:PS){o:Nat}(h:o<8)(v:Int):B2 (A06 S o v)={B2 S with seen:=(B2 S).seen.set o (some v)}:=by
 have:B1f (A06 S o v)=(B1f S).set o (some v):=by
  unfold B1f;rw[A6d _ h];apply Ir;intro k _;by_cases hk:k=o
  ·subst hk;have e1:(A06 S k v).sf k=true:=by simp[A06]
   have e2:(A06 S k v).wv k=v:=by simp[A06]
   rw[Gf e1,e2,Gf rfl]
  ·have e1:(A06 S o v).sf k=S.sf k:=by simp[A06];exact λe=>Gn e.symm hk
   have e2:(A06 S o v).wv k=S.wv k:=by simp[A06,hk]
   rw[Gd hk,e1,e2]
 unfold B2;rw[this];rfl
def C1Y{S:PS}(h:OkS S){o:Nat}{v:Int}(hv:v.natAbs<=1000000):OkS (A06 S o v):=by
 refine⟨h.n,h.shelf,h.shC,h.deals,h.items,λi hi=>?_,h.srt,h.pays,h.pyU,λk=>?_⟩
 ·have oi:=h.itI i hi;refine⟨oi.c,oi.k,oi.no,oi.lk,λe=>?_⟩;obtain⟨h1,h2⟩:=oi.lw e;refine⟨h1,?_⟩;rw[V6]at h2 ⊢;intro k hk hn;simp[A06,h2 k hk hn]
 ·dsimp[A06];split
  ·exact hv
  ·exact h.wv k
def C0G(f:Nat->Bool){o:Nat}(h:o<8):Builtin.bitAnd (Ky f:Int) ((2:Int)^o)=0↔f o=false:=by
 have e:((2:Int)^o)=((2^o:Nat):Int):=by simp
 rw[e,B3D,<-A4g ⟨o,h⟩,B2q];simp only;rw[show(((Ky λk=>f k&&o==k):Nat):Int)=0↔(Ky λk=>f k&&o==k)=0 by lia,N4];refine⟨λh2=>?_,λh2 k hk=>?_⟩
 ·have:=h2 o h;simpa using this
 ·by_cases hk:o=k
  ·subst hk;simp[h2]
  ·simp[hk]
def C2t(f:Nat->Bool){o:Nat}(h:o<8):Builtin.bitOr (Ky f:Int) ((2:Int)^o)=(Ky λk=>f k||(o==k):Nat):=by
 have e:((2:Int)^o)=((2^o:Nat):Int):=by simp
 rw[e,A4D,<-A4g ⟨o,h⟩,B0D]
inductive C4j(vs:List V)(H:Hp)(Q:VK)(E:XK):Prop
 |mk(d dx b u:Nh)(D:PD)(o:Nat)(v:Int)(_:vs=[.ref d,.int o,.int v])(_:G6 H d dx b u D)(_:OkD D)(_:A0Y H d dx b u D (.see o v) Q)
def B2i:T.A44.C T base 8 (C4j):=by
 refine T.A44.g T (U3 _ _ _ _) [none,none] (by nomatch W4 T,M0 T,A0l T,A11 T) ?_;obtain⟨d,dx,b,u,D,o,v,rfl,hd,ok,q⟩;have q:=q.to;obtain⟨s,A,hx,st⟩:=hd.st;have oS:=ok.now;have bad:(8<=o\/v< -1000000\/1000000<v)->(1:Nat)<=sizeLine/\∀p,H p=none->Q (.ref p) (upd H p (.lst [.int (-22)])):=λh=>q.num' hd ok (A5.refl _) (by show(if Kcp0.SEEN<=o\/v< -1000000\/1000000<v then _ else _)=_;rw[Gf (by exact h)])
 by_cases ho:8<=o
 ·have ho':(8:Int)<=(o:Int):=by lia
  simp[U3,ho'];exact bad (.inl ho)
 ·have ho': ¬(8:Int)<=(o:Int):=by lia
  by_cases h1: -1000000<=v
  ·by_cases h2:v<=1000000
   ·have hlo:Me (B2 D.now) o=if D.now.sf o then some (D.now.wv o) else none:=A4n D.now (by lia)
    have ab:=C0G D.now.sf (o:=o) (by lia)
    cases hs:D.now.sf o with
    |true=>
     have ab': ¬Builtin.bitAnd (Ky D.now.sf:Int) ((2:Int)^o)=0:=λe=>by rw[ab.mp e]at hs;cases hs
     simp[U3,M1,ho',h1,h2,↓Ob hx,↓Ob st.cell,ab'];refine⟨⟨by lia,by lia,by decide⟩,?_⟩;exact q.num' hd ok (A5.refl _) (by show(if Kcp0.SEEN<=o\/v< -1000000\/1000000<v then _ else if(Me (B2 D.now) o).isSome=true then _ else _)=_;rw[Gd (by show ¬(8<=o\/_);lia),Gf (by rw[hlo,hs];rfl)])
    |false=>
     have ab':=ab.mpr hs;have eq:Kt (B5 D) (.see o v)=Ly (B5 D) (Mw (B2 (A06 D.now o v))) 0:=by show(if Kcp0.SEEN<=o\/v< -1000000\/1000000<v then _ else if(Me (B2 D.now) o).isSome=true then _ else _)=_;rw[Gd (by show ¬(8<=o\/_);lia),Gd (by rw[hlo,hs];simp),B6Q _ (by lia)];rfl
     rw[eq]at q;simp[U3,M1,ho',h1,h2,↓Ob hx,↓Ob st.cell,ab'];refine⟨⟨by lia,by lia,by decide⟩,?_⟩;refine⟨s,A,D.now,rfl,st,λH1 s' A' s1 hs' hf' hdis st'=>?_⟩;have hlF:(sF A' D.now).length=9:=rfl;simp[↓Ob st'.cell,hlF];rw[C2t _ (by lia)];have hce:D8 ("seen":Str) (.int (Ky λk=>D.now.sf k||(o==k):Nat)) (sF A' D.now)=sF A' {D.now with sf:=λk=>D.now.sf k||(o==k)}:=by unfold sF;rw[A2A]
     rw[hce];have st2:=st'.cellset {D.now with sf:=λk=>D.now.sf k||(o==k)} rfl rfl rfl rfl rfl;simp[↓Ob st2.cell];refine⟨_,st2.worths,o,by simp;exact B1C (by lia),?_⟩;rw[A6d (λk=>V.int (D.now.wv k)) (by lia)];have e8:((List.range 8).map λk=>if k=o then V.int v else V.int (D.now.wv k))=(List.range 8).map λk=>V.int ((A06 D.now o v).wv k):=by apply Ir;intro k _;dsimp[A06];split<;>rfl
     rw[e8];have st3:D3 _ s' A' (A06 D.now o v):=st2.upd5 hdis (A06 D.now o v).wv;have k3:Kp [s',A'.l5] H1 (upd (upd H1 s' (.ins ad.A7 A'.dx (sF A' {D.now with sf:=λk=>D.now.sf k||(o==k)}))) A'.l5 (.lst ((List.range 8).map λk=>V.int ((A06 D.now o v).wv k)))):=((Kp.refl _ _).upd (.inl (by simp))).upd (.inl (by simp));have s3:=A5.kp s1 k3 (λx hx=>by
      simp at hx;rcases hx with rfl|rfl
      ·exact hs'
      ·exact hf' A'.l5 (by simp))
     refine C1i (Q:=Q) (v:=0) hd ok s3 hs' hf' hdis st3 (C1Y oS (by lia)) q ?_ ?_
     ·intro H6 s6 h;simp;exact h
     ·intro H6 S' A6 s6 st6 kp g;simp;refine kp _ λH7 st7 h=>?_;exact⟨by decide,h⟩
   ·simp[U3,M1,ho',h1,h2];exact bad (by lia)
  ·simp[U3,M1,ho',h1];exact bad (by lia)
inductive C1Q(vs:List V)(H:Hp)(Q:VK)(E:XK):Prop
 |mk(d dx b u a p:Nh)(D:PD)(i:PI)(c:Con)(_:vs=[.ref d,.ref a,.ref p])(_:G6 H d dx b u D)(_:OkD D)(_:C8 H a i)(_:i∈D.now.items)(_:B0 H p (.con c))(_:okS c)(_:ToQ H d dx b u (Ly (B5 D) (Mh (Mn (B2 D.now) i.no) [G8 D.now.day (i.had c)]) 0) Q)
def A9B(S:PS)(n:Nat):Mn (B2 S) n=B2 {S with items:=S.items.filter λx=>!(x.no==n)}:=by unfold Mn B2;congr 1;show(S.items.map (G8 S.day)).filter _=_;rw[List.filter_map];rfl
def A13:T.A1V.C T base 7 (C1Q):=by
 refine T.A1V.g (N:=["desk","item","promise","changed","other"]) T (A2a _ _ _ _) [none,none] (by nomatch W4 T,M0 T,A3b T,A85 T) ?_;obtain⟨d,dx,b,u,a,p,D,i,c,rfl,hd,ok,ia,hi,pp,oc,q⟩;obtain⟨s,A,hx,st⟩:=hd.st;have oS:=ok.now;simp[A2a,↓Ob hx];refine⟨s,A,D.now,rfl,st,λH1 s' A' s1 hs' hf' hdis st'=>?_⟩;obtain⟨is,j1,j2⟩:=st'.items;have ia1:=ia.ext s1.ext;obtain⟨di,pi,c1,c2⟩:=ia1;simp[↓Ob st'.cell,↓Ls j1];refine B4d (λx=>!(x.no==i.no)) j1 j2 (by have:=oS.items;lia) (λy j H' ja sm Y N hY hN=>?_) λZ as hZ ha4=>?_
 ·obtain⟨dj,pj,k1,k2⟩:=ja;by_cases hk:j.no=i.no
  ·have hk':(j.no:Int)=(i.no:Int):=by lia
   simp[↓Ob k1,↓Ob (sm _ _ c1),hk'];exact hN (by simp[hk])
  ·have hk': ¬(j.no:Int)=(i.no:Int):=by lia
   simp[↓Ob k1,↓Ob (sm _ _ c1),hk'];exact hY (by simp[hk])
 ·have s4:=A5.new (o:=.lst (as.map V.ref)) hZ;have hlF:(sF A' D.now).length=9:=rfl;simp[↓Ob (s4 _ _ st'.cell),hlF];have st4:=(st'.mono s4).setP A3 (ha4.imp λ_ _ q=>q.ext s4.ext);have s5:A5 H _:=(s1.trans s4).over (o:=.ins ad.A7 A'.dx (D8 ("pending":Str) (.ref Z) (sF A' D.now))) hs';refine⟨a,p,i,c,rfl,ia.ext s5.ext,pp.mono s5,λH5 y s6 hy iy=>?_⟩;simp;refine⟨by decide,λl hl=>?_⟩;have s7:=A5.new (o:=.lst [.ref y]) hl;have oF:OkS {D.now with items:=D.now.items.filter λx=>!(x.no==i.no)}:=B4t oS oS.deals _;have d3:SA.dis {A' with l3:=Z}:=SA.dis3 st' hdis hZ;refine B8i (Q:=Q) (v:=0) (q:=[i.had c]) (as:=[y]) hd ok ((s5.trans s6).trans s7) hs' (A4v hf' (s1.free hZ)) d3 ((st4.mono s6).mono s7) A3 (.cons (iy.ext s7.ext) .nil) (by simp) ?_ ?_ ?_ ?_
  ·refine⟨oF,by simp[PI.had],by simp[PI.had],by simp,?_,?_⟩
   ·intro j hj;rw[Gq.mp hj];exact .mk1 oc
   ·intro j hj;rw[Gq.mp hj];exact(oS.itI i hi).k
  ·rw[A9B]at q;exact q
  ·intro H6 s6 h;simp;exact h
  ·intro H6 S' A6 s6 st6 kp g;simp;refine kp _ λH7 st7 h=>?_;exact⟨by decide,h⟩
inductive C1I(vs:List V)(H:Hp)(Q:VK)(E:XK):Prop
 |mk(a:Nh)(i:PI)(_:vs=[.ref a])(_:C8 H a i)(_: ∀H' x,A5 H H'->C8 H' x (unch i)->Q (.ref x) H')
inductive B6L(vs:List V)(H:Hp)(Q:VK)(E:XK):Prop
 |mk(s:Nh)(A:SA)(S:PS)(_:vs=[.ref s])(_:D3 H s A S)(_:A.dis)(_:OkS S)(_:(chP (F1 S.items+1) S=none->∀H',Kp [s,A.l4] H H'->Q (.bl false) H'))(_: ∀S',chP (F1 S.items+1) S=some S'->∀H' l3,Kp [s,A.l4] H H'->(l3=A.l3\/H l3=none)->D3 H' s {A with l3:=l3} S'->SA.dis {A with l3:=l3}->Q (.bl true) H')
def B8M(H:Hp)(s:Nh)(A:SA)(S:PS)(m:Nat)(J:L2.St)(H':Hp):Prop:=∃(v1:Option V)(l3:Nh)(Sc:PS),J=[some (.ref s),v1]/\Kp [s,A.l4] H H'/\(l3=A.l3\/H l3=none)/\D3 H' s {A with l3:=l3} Sc/\SA.dis {A with l3:=l3}/\OkS Sc/\chP (F1 Sc.items+1) Sc=chP (F1 S.items+1) S/\m=F1 Sc.items
def B0A:T.A3M.C T base 8 (C1T .choose):=by
 refine T.A3M.g T (A3X _ _) [none] (by nomatch A14 T,A13 T) ?_;obtain⟨d,dx,b,u,D,who,n,wh,rfl,hd,ok,q⟩;have q:=q.to;have oS:=ok.now;simp[A3X];refine⟨d,dx,b,u,D,n,rfl,hd,oS.items,λhf=>?_,λa i hf ia=>?_⟩
 ·simp;exact q.num' hd ok (A5.refl _) (by simp[Kt,A0G,Q0,hf])
 ·have hi:=Jy hf;have hno:i.no=n:=by have:=List.find?_some hf;simpa using this
  have oi:=oS.itI i hi;have ia':=ia;obtain⟨di,pi,c1,c2⟩:=ia;obtain⟨d1,l1,ks,e1,e2,e3⟩:=c2.cell;by_cases hor: ∃x y,i.c=.or_ x y
  ·obtain⟨x,y,hc⟩:=hor;have oc:=oi.c;rw[hc]at e1 e3 oc;have wc:=oc.1;simp[E5]at wc;obtain⟨p1,p2,rfl,pp1,pp2⟩:=e3.two;have nl:i.lk≠D.now.day:=λe=>by obtain⟨⟨d,b,a,e⟩,_⟩:=oi.lw e;rw[hc]at e;cases e
   have eq:Kt (B5 D) (.choose who n wh)=if who≠i.holder then(B5 D,.num (-1)) else if 1<wh then(B5 D,.num (-22)) else Ly (B5 D) (Mh (Mn (B2 D.now) i.no) [G8 D.now.day (i.had (if wh=0 then x else y))]) 0:=by rw[A2h nl];dsimp[Kt,A0G,Q0,hf,Hg];have:(G8 D.now.day i).c=.or_ x y:=hc;dsimp[this,hno];rfl
   rw[eq]at q;by_cases hw:who≠i.holder
   ·rw[Gf hw]at q;have hw': ¬(i.holder:Int)=(who:Int):=by lia
    simp[↓Ob c1,↓Ob e1,hw'];exact q.num hd ok (A5.refl _)
   ·rw[Gd hw]at q;have hw':(i.holder:Int)=(who:Int):=by lia
    by_cases h2:1<wh
    ·rw[Gf h2]at q;have h2':(2:Int)<=(wh:Int):=by lia
     have h2n:2<=wh:=h2;simp[↓Ob c1,↓Ob e1,hw',↓Tp e2,h2',h2n];exact q.num hd ok (A5.refl _)
    ·rw[Gd h2]at q;have h2': ¬(2:Int)<=(wh:Int):=by lia
     have hwh:wh=0\/wh=1:=by lia
     rcases hwh with rfl|rfl
     ·simp[↓Ob c1,↓Ob e1,hw',↓Tp e2];exact⟨d,dx,b,u,a,p1,D,i,x,rfl,hd,ok,ia',hi,pp1,T0 oc wc.1 (by simp[A9]<;>lia),by simpa using q⟩
     ·simp[↓Ob c1,↓Ob e1,hw',↓Tp e2];exact⟨d,dx,b,u,a,p2,D,i,y,rfl,hd,ok,ia',hi,pp2,T0 oc wc.2 (by simp[A9]<;>lia),by simpa using q⟩
  ·have hne:(Nd.con i.c).wd≠"or":=by intro e;cases hc:i.c<;>rw[hc]at e<;>simp at e;exact hor ⟨_,_,hc⟩
   simp[↓Ob c1,↓Ob e1,hne];refine q.num' hd ok (A5.refl _) ?_;dsimp[Kt,A0G,Q0,hf,Hg];have hcc:(G8 D.now.day i).c=i.c:=rfl;rw[hcc]
   cases hc:i.c with
   |or_ x y=>exact Gn ⟨x,y,hc⟩ hor
   |_=>rfl
def B3y:T.A6G.C T base 8 (C1U .take):=by
 refine T.A6G.g T (A7e _ _) [none] (by nomatch A14 T,A13 T) ?_;obtain⟨d,dx,b,u,D,who,n,rfl,hd,ok,q⟩;have q:=q.to;have oS:=ok.now;simp[A7e];refine⟨d,dx,b,u,D,n,rfl,hd,oS.items,λhf=>?_,λa i hf ia=>?_⟩
 ·simp;exact q.num' hd ok (A5.refl _) (by simp[Kt,A0G,Q0,hf])
 ·have hi:=Jy hf;have hno:i.no=n:=by have:=List.find?_some hf;simpa using this
  have oi:=oS.itI i hi;have ia':=ia;obtain⟨di,pi,c1,c2⟩:=ia;obtain⟨d1,l1,ks,e1,e2,e3⟩:=c2.cell;by_cases hor: ∃x y,i.c=.any_ x y
  ·obtain⟨x,y,hc⟩:=hor;have oc:=oi.c;rw[hc]at e1 e3 oc;have wc:=oc.1;simp[E5]at wc;obtain⟨p1,p2,rfl,pp1,pp2⟩:=e3.two;have nl:i.lk≠D.now.day:=λe=>by obtain⟨⟨d,b,a,e⟩,_⟩:=oi.lw e;rw[hc]at e;cases e
   have eq:Kt (B5 D) (.take who n)=if who≠i.holder then(B5 D,.num (-1)) else Ly (B5 D) (Mh (Mn (B2 D.now) i.no) [G8 D.now.day (i.had y)]) 0:=by rw[A2h nl];dsimp[Kt,A0G,Q0,hf,Hg];have:(G8 D.now.day i).c=.any_ x y:=hc;dsimp[this,hno];rfl
   rw[eq]at q;by_cases hw:who≠i.holder
   ·rw[Gf hw]at q;have hw': ¬(i.holder:Int)=(who:Int):=by lia
    simp[↓Ob c1,↓Ob e1,hw'];exact q.num hd ok (A5.refl _)
   ·rw[Gd hw]at q;have hw':(i.holder:Int)=(who:Int):=by lia
    simp[↓Ob c1,↓Ob e1,hw',↓Tp e2];exact⟨d,dx,b,u,a,p2,D,i,y,rfl,hd,ok,ia',hi,pp2,T0 oc wc.2 (by simp[A9]<;>lia),q⟩
  ·have hne:(Nd.con i.c).wd≠"any":=by intro e;cases hc:i.c<;>rw[hc]at e<;>simp at e;exact hor ⟨_,_,hc⟩
   simp[↓Ob c1,↓Ob e1,hne];refine q.num' hd ok (A5.refl _) ?_;dsimp[Kt,A0G,Q0,hf,Hg];have hcc:(G8 D.now.day i).c=i.c:=rfl;rw[hcc]
   cases hc:i.c with
   |any_ x y=>exact Gn ⟨x,y,hc⟩ hor
   |_=>rfl
def B3u:T.A6B.C T base 4 (C1I):=by
 refine T.A6B.g T (A3f _) [] (by nomatch A85 T) ?_;obtain⟨a,i,rfl,ia,q⟩;have ia':=ia;obtain⟨di,pi,c1,c2⟩:=ia;obtain⟨d1,l1,ks,e1,e2,e3⟩:=c2.cell;by_cases hor: ∃x y,i.c=.or_ x y
 ·obtain⟨x,y,hc⟩:=hor;have eu:unch i=i.had x:=by unfold unch;rw[hc]
  rw[eu]at q;rw[hc]at e1 e3;obtain⟨p1,p2,rfl,pp1,pp2⟩:=e3.two;simp[A3f,↓Ob c1,↓Ob e1,↓Tp e2];exact⟨a,p1,i,x,rfl,ia',pp1,λH' x s _ ix=>q H' x s ix⟩
 ·have hne:(Nd.con i.c).wd≠"or":=by intro e;cases hc:i.c<;>rw[hc]at e<;>simp at e;exact hor ⟨_,_,hc⟩
  have eu:unch i=i:=by
   unfold unch
   cases hc:i.c with
   |or_ x y=>exact Gn ⟨x,y,hc⟩ hor
   |_=>rfl
  rw[eu]at q;simp[A3f,↓Ob c1,↓Ob e1,hne];exact q H a (A5.refl _) ia'
def C3Q(c:Con):decide ((Nd.con c).wd="or")=Mm c:=by cases c<;>simp[Mm]
def B0z:T.A3K.C T base 8 (B6L):=by
 refine T.A3K.g (N:=["state","item"]) T (A3V _ _) [none] (by nomatch B3u T,A0l T) ?_;obtain⟨s,A,S,rfl,st,dis,oS,qn,qy⟩;simp[A3V];refine B6h (B8M H s A S) (F1 S.items) ⟨none,A.l3,S,rfl,Kp.refl _ _,.inl rfl,st,dis,oS,rfl,rfl⟩ ?_;rintro m J H' ⟨v1,l3,Sc,rfl,kp,hl3,st',dis',oc,ec,rfl⟩;obtain⟨is,j1,j2⟩:=st'.items;have j1:H' l3=some (.lst (is.map V.ref)):=j1;simp[↓Ob st'.cell,↓Ls j1];have oi:=oc.items;refine A09 (F3 (G:=λH'=>H' l3=some (.lst (is.map V.ref))) λH' e=>e) (by simp;exact A8c (by rw[j2.1];lia)) (λZ i acc H2=>H2=upd H' Z (.lst acc)/\H' Z=none/\acc=(Sc.items.take i).map λx=>V.bl (orP x)) (λZ hZ=>⟨rfl,hZ,by simp⟩) ?_ ?_ ?_
 ·rintro Z i acc H2 ⟨rfl,hZ,rfl⟩;exact⟨by rw[A4 (A2 j1 hZ)];exact j1,A3,by simp;lia⟩
 ·rintro Z i x acc H2 hZ hi ⟨rfl,_,hacc⟩ Y N hY hN;rw[Ha]at hi;obtain⟨a,ha,rfl⟩:=Hh.mp hi;obtain⟨it,e,di,pi,c1,c2⟩:=j2.get ha;obtain⟨d1,l1,ks,e1,e2,e3⟩:=c2.cell;have ht:Sc.items.take (i+1)=Sc.items.take i++[it]:=by rw[Hz,e];rfl
  simp[↓N0 (A2 c1 hZ),↓Ob c1,↓N0 (A2 e1 hZ),↓Ob e1];have:=hY (.bl (orP it)) (upd H' Z (.lst acc)) A3 ⟨by simp,hZ,by rw[hacc,ht];simp⟩;have ew:((Nd.con it.c).wd=="or")=orP it:=(Im.mpr (by simp)).trans (C3Q it.c);rw[ew];exact this
 ·rintro Z acc H2 hZ ⟨rfl,_,rfl⟩;rw[Gz,j2.1,Ho];obtain⟨bs,hbs⟩: ∃bs,bs=Sc.items.map orP:=⟨_,rfl⟩
  have eb:(Sc.items.map λx=>V.bl (orP x))=bs.map V.bl:=by rw[hbs,Iu];rfl
  rw[eb];have hb:bs.any id=Sc.items.any orP:=by rw[hbs,List.any_map];rfl
  have s1:A5 H' (upd H' Z (.lst (bs.map V.bl))):=A5.new hZ;have kZ:H Z=none:=by
   rcases kp.free hZ with h|h
   ·exact h
   ·exfalso;simp at h;rcases h with rfl|rfl
    ·rw[st'.cell]at hZ;cases hZ
    ·obtain⟨_,h4,_⟩:=st'.pays;have h4:H' A.l4=_:=h4;rw[h4]at hZ;cases hZ
  simp;refine⟨bs,rfl,?_⟩;have st1:=st'.mono s1;by_cases ho:Sc.items.any orP=true
  ·rw[Gf (by rw[<-hb]at ho;simpa using ho)];have hlt:=(A50 Sc.items).2 ho;have unf:chP (F1 Sc.items+1) Sc=(wkR (bare Sc) (Sc.items.map unch)).bind (chP (F1 Sc.items)):=by show(if _ then _ else _)=_;rw[Gf ho]
   rw[unf]at ec;refine⟨fun S' H9=>∃m',m'<F1 Sc.items/\B8M H s A S m' S' H9,λ_ _ h=>h,?_⟩;simp[↓Ob st1.cell,↓Ls (s1 _ _ j1)];have j2':C1 (C8 (upd H' Z (.lst (bs.map V.bl)))) is Sc.items:=j2.imp λ_ _ q=>q.ext s1.ext;refine B1B unch (s1 _ _ j1) j2' (by lia) (λa i H9 ia Y hY=>?_) λZ2 H4 as hZ2 s4 hc4 ha4=>?_
   ·simp;exact⟨a,i,rfl,ia,hY⟩
   ·have hlF:(sF {A with l3:=l3} Sc).length=9:=rfl;simp[↓Ob (s4 _ _ st1.cell),hlF];have st4:=(st1.mono s4).setP hc4 ha4;have d4:SA.dis {A with l3:=Z2}:=SA.dis3 st1 dis' hZ2;have kp4:Kp [s,A.l4] H (upd H4 s (.ins ad.A7 A.dx (D8 ("pending":Str) (.ref Z2) (sF {A with l3:=l3} Sc)))):=((kp.trans (.of (s1.trans s4))).upd (.inl (by simp)))
    have ao:=V3.unch oc;have hlen:(Sc.items.map unch).length<=48:=by simp;exact oi
    have hz:=A39 (λi hi=>(ao.qk i hi).c) hlen;have hp:=oc.pays;refine⟨s,{A with l3:=Z2},{Sc with items:=Sc.items.map unch},rfl,st4,d4,λi hi=>(ao.qk i hi).c.okC,oc.wv,by show Sc.pays.length+F1 (Sc.items.map unch)<=_;lia,λhw H5 k5=>?_,λS5 hw H5 l5 k5 hl5 st5=>?_⟩
    ·have e:wkR (bare Sc) (Sc.items.map unch)=none:=by have hw:wkP (F1 (Sc.items.map unch)) (bare Sc) (Sc.items.map unch) [] []=none:=hw;unfold wkR;rw[hw];rfl
     rw[e]at ec;simp;exact qn ec.symm _ (kp4.trans k5)
    ·have hw:wkP (F1 (Sc.items.map unch)) (bare Sc) (Sc.items.map unch) [] []=some S5:=hw;have e:=A5X hw;by_cases hbd:S5.items.length<=48/\S5.pays.length<=400
     ·rw[Gf hbd]at e;rw[e]at ec;have ec:chP (F1 Sc.items) S5=chP (F1 S.items+1) S:=ec;have g:=(A2e ao e).2.2;have hsz:F1 S5.items<F1 Sc.items:=by have h3:=g.sz;have e0:F1 (bare Sc).items=0:=rfl;rw[e0]at h3;lia
      have hl5':H l5=none:=by
       rcases kp4.free hl5 with h|h
       ·exact h
       ·exfalso;simp at h;rcases h with rfl|rfl
        ·rw[A3]at hl5;cases hl5
        ·obtain⟨_,h4,_⟩:=st4.pays;have h4:_=some (HO.lst _):=h4;rw[h4]at hl5;cases hl5
      dsimp[hbd.1,hbd.2,decide_true,Bool.and_self];simp;refine⟨F1 S5.items,hsz,_,l5,S5,rfl,kp4.trans k5,.inr hl5',st5,SA.dis3 st4 d4 hl5,g.ok,?_,rfl⟩;rw[<-ec];exact B16 _ _ _ g.ok (by lia) (by lia)
     ·rw[Gd hbd]at e;rw[e]at ec;have:(decide (S5.items.length<=48)&&decide (S5.pays.length<=400))=false:=by by_cases h1:S5.items.length<=48<;>by_cases h2:S5.pays.length<=400<;>simp[h1,h2]<;>exact Gn ⟨h1,h2⟩ hbd
      rw[this];simp;exact qn ec.symm _ (kp4.trans k5)
  ·rw[Gd (by rw[<-hb]at ho;simpa using ho)];have unf:chP (F1 Sc.items+1) Sc=some Sc:=by show(if _ then _ else _)=_;rw[Gd ho]
   rw[unf]at ec;exact qy Sc ec.symm _ l3 (kp.trans (.of s1)) hl3 st1 dis'
noncomputable def A2B(S:PS):PS:={S with day:=S.day+1,sf:=λ_=>false}
def B98{S:PS}(h:OkS S):OkS (A2B S):=
 ⟨h.n,h.shelf,h.shC,h.deals,h.items,λi hi=>by have oi:=h.itI i hi;have:=oi.lk;exact⟨oi.c,oi.k,oi.no,by show i.lk<=((S.day+1:Nat):Int);omega,λe=>by have e:i.lk=((S.day+1:Nat):Int):=e;omega⟩,h.srt,h.pays,h.pyU,h.wv⟩
def B5d{S:PS}(h:OkS S):Mx (B2 S)=Mw (B2 (A2B S)):=by
 unfold Mx;congr 1;unfold B2;congr 1;show(S.items.map (G8 S.day)).map _=S.items.map (G8 (S.day+1));rw[Iu];apply Ir;intro i hi;have:=(h.itI i hi).lk;have hne:i.lk≠((S.day+1:Nat):Int):=by omega
 dsimp[Function.comp,G8];rw[Hk hne]
def B2n:T.A5e.C T base 9 (B41 .close):=by
 refine T.A5e.g T (A2b _ _ _ _ _) [none] (by nomatch W4 T,M0 T,B0z T,A1l T,A0l T) ?_;obtain⟨d,dx,b,u,D,rfl,hd,ok,q⟩;have q:=q.to;obtain⟨s,A,hx,st⟩:=hd.st;have oS:=ok.now
 have eq:Kt (B5 D) .close=if 1000<=D.now.day then(B5 D,.num (-28)) else match(chP (F1 D.now.items+1) D.now).map B2 with
   |none=>(B5 D,.num (-75))
   |some t=>if Mj t≠0 then(B5 D,.num (-61)) else Ly (B5 D) (Mx t) (D.now.day+1):=by
  rw[<-A83 _ _ oS];have hz:Mv (B2 D.now).items=F1 D.now.items:=B1e D.now.items D.now.day;rw[<-hz];rfl
 rw[eq]at q;by_cases hl:1000<=D.now.day
 ·rw[Gf hl]at q;have hl':(1000:Int)<=(D.now.day:Int):=by omega
  simp[A2b,↓Ob hx,↓Ob st.cell,hl'];exact q.num hd ok (A5.refl _)
 ·rw[Gd hl]at q;have hl': ¬(1000:Int)<=(D.now.day:Int):=by omega
  simp[A2b,↓Ob hx,↓Ob st.cell,hl'];refine⟨s,A,D.now,rfl,st,λH1 s' A' s1 hs' hf' hdis st'=>?_⟩;have kpS: ∀{H2},Kp [s',A'.l4] H1 H2->A5 H H2:=λk=>A5.kp s1 k λx hx=>by
   simp at hx;rcases hx with rfl|rfl
   ·exact hs'
   ·exact hf' A'.l4 (by simp)
  refine⟨s',A',D.now,rfl,st',hdis,oS,λhn H2 k2=>?_,λS2 hc H2 l3 k2 hl3 st2 d2=>?_⟩
  ·rw[hn]at q;simp;exact ToQ.num (D:=D) q hd ok (kpS k2)
  ·rw[hc]at q;have q:ToQ H d dx b u (if Mj (B2 S2)≠0 then(B5 D,.num (-61)) else Ly (B5 D) (Mx (B2 S2)) (D.now.day+1)) Q:=q;have g:=B8s _ _ _ oS hc;rw[A9q S2 g.ok]at q;simp;refine⟨s',_,S2,rfl,st2,?_⟩;by_cases hne:Ky (A4E S2)=0
   ·rw[Gd (by simpa using hne),B5d g.ok]at q;rw[hne];have hf3:SA.fresh {A' with l3:=l3} H:=by
     rcases hl3 with rfl|h
     ·exact hf'
     ·exact A4v hf' (s1.free h)
    have hlF:(sF {A' with l3:=l3} S2).length=9:=rfl;have hce:D8 ("day":Str) (.int ((S2.day:Int)+1)) (sF {A' with l3:=l3} S2)=sF {A' with l3:=l3} {S2 with day:=S2.day+1}:=by unfold sF;rw[A92];rfl
    have st3:=st2.cellset {S2 with day:=S2.day+1} rfl rfl rfl rfl rfl;simp[↓Ob st2.cell,hlF];rw[hce];have hlF3:(sF {A' with l3:=l3} {S2 with day:=S2.day+1}).length=9:=rfl;have z:Ky (λ_=>false)=0:=N4.mpr λ_ _=>rfl;have hce2:D8 ("seen":Str) (.int 0) (sF {A' with l3:=l3} {S2 with day:=S2.day+1})=sF {A' with l3:=l3} (A2B S2):=by have:sF {A' with l3:=l3} (A2B S2)=sF {A' with l3:=l3} {S2 with day:=S2.day+1,sf:=λ_=>false}:=rfl;rw[this];unfold sF;rw[A2A,z];rfl
    have st4:=st3.cellset (A2B S2) rfl rfl rfl rfl rfl;simp[↓Ob st3.cell,hlF3];rw[hce2];have e2:upd (upd H2 s' (.ins ad.A7 A'.dx (sF {A' with l3:=l3} {S2 with day:=S2.day+1}))) s' (.ins ad.A7 A'.dx (sF {A' with l3:=l3} (A2B S2)))=upd H2 s' (.ins ad.A7 A'.dx (sF {A' with l3:=l3} (A2B S2))):=B3P;have st4:D3 (upd H2 s' (.ins ad.A7 A'.dx (sF {A' with l3:=l3} (A2B S2)))) s' {A' with l3:=l3} (A2B S2):=by rw[<-e2];exact st4
    have s4:A5 H (upd H2 s' (.ins ad.A7 A'.dx (sF {A' with l3:=l3} (A2B S2)))):=(kpS k2).over hs';refine C1i (Q:=Q) (v:=D.now.day+1) hd ok s4 hs' hf3 d2 st4 (B98 g.ok) q ?_ ?_
    ·intro H6 s6 h;simp;exact h
    ·intro H6 S' A6 s6 st6 kp g6;simp;refine kp _ λH7 st7 h=>?_;simp[↓Ob st7.cell];have e5:((S'.day:Nat):Int)=(D.now.day:Int)+1:=by have:S'.day=S2.day+1:=g6.day;rw[this,g.day];rfl
     rw[e5];exact⟨by decide,h⟩
   ·rw[Gf (by simpa using hne)]at q;have hne': ¬((Ky (A4E S2):Nat):Int)=0:=by omega
    simp[hne',hne];exact ToQ.num (D:=D) q hd ok (kpS k2)
inductive Srt|c|p|x|d|u deriving DecidableEq
inductive Hd|one|both|or_|turn|times|if_|at_|when_|any_|le|lt|not_|all_|some_|add|sub|mul deriving DecidableEq
noncomputable def Hd.wd:Hd->String
 |.one=>"one"|.both=>"both"|.or_=>"or"|.turn=>"turn"|.times=>"times"|.if_=>"if"|.at_=>"at"|.when_=>"when"|.any_=>"any"
 |.le=>"le"|.lt=>"lt"|.not_=>"not"|.all_=>"all"|.some_=>"some"|.add=>"add"|.sub=>"sub"|.mul=>"mul"
def Hd.srt:Hd->Srt
 |.one=>.c|.both=>.c|.or_=>.c|.turn=>.c|.times=>.c|.if_=>.c|.at_=>.c|.when_=>.c|.any_=>.c
 |.le=>.p|.lt=>.p|.not_=>.p|.all_=>.p|.some_=>.p|.add=>.x|.sub=>.x|.mul=>.x
noncomputable def Hd.want:Hd->List Srt
 |.one=>[.u]|.both=>[.c,.c]|.or_=>[.c,.c]|.turn=>[.c]|.times=>[.x,.c]|.if_=>[.p,.c,.c]|.at_=>[.d,.c]|.when_=>[.d,.p,.c]|.any_=>[.d,.c]
 |.le=>[.x,.x]|.lt=>[.x,.x]|.not_=>[.p]|.all_=>[.p,.p]|.some_=>[.p,.p]|.add=>[.x,.x]|.sub=>[.x,.x]|.mul=>[.x,.x]
section
variable{S J L:Type}
noncomputable def k1(o:(S->Option Nd)->Nd->Option Nd)(f:S->Nd):List Nd->Option Nd
 |[a]=>o (λx=>some (f x)) a
 |_=>none
noncomputable def k2(o:(S->Option Nd)->Nd->Option Nd)(p:(J->Option Nd)->Nd->Option Nd)(f:S->J->Nd):List Nd->Option Nd
 |[a,b]=>o (λx=>p (λy=>some (f x y)) b) a
 |_=>none
noncomputable def k3(o:(S->Option Nd)->Nd->Option Nd)(p:(J->Option Nd)->Nd->Option Nd)(q:(L->Option Nd)->Nd->Option Nd)(f:S->J->L->Nd):List Nd->Option Nd
 |[a,b,c]=>o (λx=>p (λy=>q (λz=>some (f x y z)) c) b) a
 |_=>none
end
noncomputable def oC(f:Con->Option Nd):Nd->Option Nd
 |.con c=>f c
 |_=>none
noncomputable def oP(f:Cond->Option Nd):Nd->Option Nd
 |.cnd c=>f c
 |_=>none
noncomputable def oX(f:Exp->Option Nd):Nd->Option Nd
 |.exp c=>f c
 |_=>none
noncomputable def oD(f:Nat->Option Nd):Nd->Option Nd
 |.day c=>f c
 |_=>none
noncomputable def oU(f:Nat->Option Nd):Nd->Option Nd
 |.unit c=>f c
 |_=>none
noncomputable def Hd.mk:Hd->List Nd->Option Nd
 |.one=>k1 oU λa=>.con (.one a)
 |.both=>k2 oC oC λa b=>.con (.both a b)
 |.or_=>k2 oC oC λa b=>.con (.or_ a b)
 |.turn=>k1 oC λa=>.con (.turn a)
 |.times=>k2 oX oC λa b=>.con (.times a b)
 |.if_=>k3 oP oC oC λa b c=>.con (.if_ a b c)
 |.at_=>k2 oD oC λa b=>.con (.at_ a b)
 |.when_=>k3 oD oP oC λa b c=>.con (.when_ a b c)
 |.any_=>k2 oD oC λa b=>.con (.any_ a b)
 |.le=>k2 oX oX λa b=>.cnd (.le a b)
 |.lt=>k2 oX oX λa b=>.cnd (.lt a b)
 |.not_=>k1 oP λa=>.cnd (.not_ a)
 |.all_=>k2 oP oP λa b=>.cnd (.all_ a b)
 |.some_=>k2 oP oP λa b=>.cnd (.some_ a b)
 |.add=>k2 oX oX λa b=>.exp (.add a b)
 |.sub=>k2 oX oX λa b=>.exp (.sub a b)
 |.mul=>k2 oX oX λa b=>.exp (.mul a b)
def Nd.srt:Nd->Srt
 |.con _=>.c|.cnd _=>.p|.exp _=>.x|.day _=>.d|.unit _=>.u
def nn{S:Type}{a:S}{p:Prop}(h:none=some a):p:=nomatch h
def sn{S:Type}{a:S}{p:Prop}(h:some a=none):p:=nomatch h
noncomputable def Nd.hd:Nd->Option Hd
 |.con (.one _)=>some .one|.con (.both _ _)=>some .both|.con (.or_ _ _)=>some .or_|.con (.turn _)=>some .turn|.con (.times _ _)=>some .times
 |.con (.if_ _ _ _)=>some .if_|.con (.at_ _ _)=>some .at_|.con (.when_ _ _ _)=>some .when_|.con (.any_ _ _)=>some .any_
 |.cnd (.le _ _)=>some .le|.cnd (.lt _ _)=>some .lt|.cnd (.not_ _)=>some .not_|.cnd (.all_ _ _)=>some .all_|.cnd (.some_ _ _)=>some .some_
 |.exp (.add _ _)=>some .add|.exp (.sub _ _)=>some .sub|.exp (.mul _ _)=>some .mul
 |_=>none
inductive MkV:Hd->List Nd->Nd->Prop
 |one(u:Nat):MkV .one [.unit u] (.con (.one u))
 |both(a:Con)(b:Con):MkV .both [.con a,.con b] (.con (.both a b))
 |or_(a:Con)(b:Con):MkV .or_ [.con a,.con b] (.con (.or_ a b))
 |turn(a:Con):MkV .turn [.con a] (.con (.turn a))
 |times(e:Exp)(a:Con):MkV .times [.exp e,.con a] (.con (.times e a))
 |if_(b:Cond)(x:Con)(y:Con):MkV .if_ [.cnd b,.con x,.con y] (.con (.if_ b x y))
 |at_(d:Nat)(a:Con):MkV .at_ [.day d,.con a] (.con (.at_ d a))
 |when_(d:Nat)(b:Cond)(a:Con):MkV .when_ [.day d,.cnd b,.con a] (.con (.when_ d b a))
 |any_(d:Nat)(a:Con):MkV .any_ [.day d,.con a] (.con (.any_ d a))
 |le(a:Exp)(b:Exp):MkV .le [.exp a,.exp b] (.cnd (.le a b))
 |lt(a:Exp)(b:Exp):MkV .lt [.exp a,.exp b] (.cnd (.lt a b))
 |not_(a:Cond):MkV .not_ [.cnd a] (.cnd (.not_ a))
 |all_(a:Cond)(b:Cond):MkV .all_ [.cnd a,.cnd b] (.cnd (.all_ a b))
 |some_(a:Cond)(b:Cond):MkV .some_ [.cnd a,.cnd b] (.cnd (.some_ a b))
 |add(a:Exp)(b:Exp):MkV .add [.exp a,.exp b] (.exp (.add a b))
 |sub(a:Exp)(b:Exp):MkV .sub [.exp a,.exp b] (.exp (.sub a b))
 |mul(a:Exp)(b:Exp):MkV .mul [.exp a,.exp b] (.exp (.mul a b))
structure IsO{S:Type}(o:(S->Option Nd)->Nd->Option Nd)(g:S->Nd)(s:Srt):Prop where
 e: ∀{f a n},o f a=some n->∃x,a=g x/\f x=some n
 s: ∀{a:Nd},a.srt=s->∃x,a=g x
 m: ∀f x,o f (g x)=f x
def isC:IsO oC .con .c:=⟨λ{_ a _} e=>by cases a<;>first|exact nn e|exact⟨_,rfl,e⟩,λ{a} h=>by cases a<;>first|exact⟨_,rfl⟩|exact Srt.noConfusion h,λ_ _=>rfl⟩
def isP:IsO oP .cnd .p:=⟨λ{_ a _} e=>by cases a<;>first|exact nn e|exact⟨_,rfl,e⟩,λ{a} h=>by cases a<;>first|exact⟨_,rfl⟩|exact Srt.noConfusion h,λ_ _=>rfl⟩
def isX:IsO oX .exp .x:=⟨λ{_ a _} e=>by cases a<;>first|exact nn e|exact⟨_,rfl,e⟩,λ{a} h=>by cases a<;>first|exact⟨_,rfl⟩|exact Srt.noConfusion h,λ_ _=>rfl⟩
def isD:IsO oD .day .d:=⟨λ{_ a _} e=>by cases a<;>first|exact nn e|exact⟨_,rfl,e⟩,λ{a} h=>by cases a<;>first|exact⟨_,rfl⟩|exact Srt.noConfusion h,λ_ _=>rfl⟩
def isU:IsO oU .unit .u:=⟨λ{_ a _} e=>by cases a<;>first|exact nn e|exact⟨_,rfl,e⟩,λ{a} h=>by cases a<;>first|exact⟨_,rfl⟩|exact Srt.noConfusion h,λ_ _=>rfl⟩
section
variable{S J L:Type}{o:(S->Option Nd)->Nd->Option Nd}{p:(J->Option Nd)->Nd->Option Nd}{q:(L->Option Nd)->Nd->Option Nd}{g:S->Nd}{g':J->Nd}{g'':L->Nd}{s t u:Srt}{C:List Nd->Nd->Prop}{ks:List Nd}{n:Nd}
def C2U{f:S->Nd}(i:IsO o g s)(k: ∀x,C [g x] (f x))(e:k1 o f ks=some n):C ks n:=by
 rcases ks with _|⟨a,_|⟨b,l⟩⟩<;>first|exact nn e|skip
 obtain⟨x,rfl,r⟩:=i.e e;cases r;exact k x
def A5C{f:S->J->Nd}(i:IsO o g s)(j:IsO p g' t)(k: ∀x y,C [g x,g' y] (f x y))(e:k2 o p f ks=some n):C ks n:=by
 rcases ks with _|⟨a,_|⟨b,_|⟨c,l⟩⟩⟩<;>first|exact nn e|skip
 obtain⟨x,rfl,r⟩:=i.e e;obtain⟨y,rfl,r'⟩:=j.e r;cases r';exact k x y
def C47{f:S->J->L->Nd}(i:IsO o g s)(j:IsO p g' t)(l:IsO q g'' u)(k: ∀x y z,C [g x,g' y,g'' z] (f x y z))(e:k3 o p q f ks=some n):C ks n:=by
 rcases ks with _|⟨a,_|⟨b,_|⟨c,_|⟨d,l⟩⟩⟩⟩<;>first|exact nn e|skip
 obtain⟨x,rfl,r⟩:=i.e e;obtain⟨y,rfl,r'⟩:=j.e r;obtain⟨z,rfl,v⟩:=l.e r';cases v;exact k x y z
def C2T{f:S->Nd}(i:IsO o g s)(e:ks.map Nd.srt=[s]): ∃n,k1 o f ks=some n:=by
 rcases ks with _|⟨a,_|⟨b,l⟩⟩<;>first|(cases e;done)|skip
 injection e with e;obtain⟨x,rfl⟩:=i.s e;exact⟨_,i.m _ x⟩
def B7M{f:S->J->Nd}(i:IsO o g s)(j:IsO p g' t)(e:ks.map Nd.srt=[s,t]): ∃n,k2 o p f ks=some n:=by
 rcases ks with _|⟨a,_|⟨b,_|⟨c,l⟩⟩⟩<;>first|(cases e;done)|skip
 injection e with e e';injection e' with e';obtain⟨x,rfl⟩:=i.s e;obtain⟨y,rfl⟩:=j.s e';exact⟨_,(i.m _ x).trans (j.m _ y)⟩
def C46{f:S->J->L->Nd}(i:IsO o g s)(j:IsO p g' t)(l:IsO q g'' u)(e:ks.map Nd.srt=[s,t,u]): ∃n,k3 o p q f ks=some n:=by
 rcases ks with _|⟨a,_|⟨b,_|⟨c,_|⟨d,l⟩⟩⟩⟩<;>first|(cases e;done)|skip
 injection e with e e';injection e' with e' e2;injection e2 with e2;obtain⟨x,rfl⟩:=i.s e;obtain⟨y,rfl⟩:=j.s e';obtain⟨z,rfl⟩:=l.s e2;exact⟨_,(i.m _ x).trans ((j.m _ y).trans (l.m _ z))⟩
end
def C2E{h:Hd}{ks:List Nd}{n:Nd}(e:h.mk ks=some n):MkV h ks n:=by
 cases h
 ·exact C2U isU .one e
 ·exact A5C isC isC .both e
 ·exact A5C isC isC .or_ e
 ·exact C2U isC .turn e
 ·exact A5C isX isC .times e
 ·exact C47 isP isC isC .if_ e
 ·exact A5C isD isC .at_ e
 ·exact C47 isD isP isC .when_ e
 ·exact A5C isD isC .any_ e
 ·exact A5C isX isX .le e
 ·exact A5C isX isX .lt e
 ·exact C2U isP .not_ e
 ·exact A5C isP isP .all_ e
 ·exact A5C isP isP .some_ e
 ·exact A5C isX isX .add e
 ·exact A5C isX isX .sub e
 ·exact A5C isX isX .mul e
def B4b{h:Hd}{ks:List Nd}{n:Nd}(e:h.mk ks=some n):n.wd=h.wd/\n.kids=ks/\n.made=true/\n.srt=h.srt/\((∀k∈ks,k.wf=true)->n.wf=true)/\ks≠[]:=by
 have a2: ∀{a b:Bool},a=true->b=true->(a&&b)=true:=λh k=>by rw[h,k];rfl
 cases C2E e<;>exact⟨rfl,rfl,rfl,rfl,λhk=>by first|exact hk _ (.head _)|exact a2 (hk _ (.head _)) (hk _ (.tail _ (.head _)))|exact a2 (a2 (hk _ (.head _)) (hk _ (.tail _ (.head _)))) (hk _ (.tail _ (.tail _ (.head _))))|(simp[Nd.wf,E5,V5,O3]at hk ⊢ <;>simp[hk]),nofun⟩
def C0c{h:Hd}{ks:List Nd}(e:ks.map Nd.srt=h.want): ∃n,h.mk ks=some n:=by cases h<;>first|exact C2T isU e|exact B7M isC isC e|exact C2T isC e|exact B7M isX isC e|exact C46 isP isC isC e|exact B7M isD isC e|exact C46 isD isP isC e|exact B7M isX isX e|exact C2T isP e|exact B7M isP isP e
noncomputable def C5i:List Hd:=[.one,.both,.or_,.turn,.times,.if_,.at_,.when_,.any_,.le,.lt,.not_,.all_,.some_,.add,.sub,.mul]
def A7R(s:Srt)(t:List Nat):Option Hd:=C5i.find? λh=>decide (h.srt=s)&&decide (Kr h.wd=t)
def B7X{n:Nd}{h:Hd}(e:n.hd=some h):h.wd=n.wd/\h.srt=n.srt/\h.want=n.kids.map Nd.srt/\h.mk n.kids=some n:=by
 cases n with
 |con c=>cases c<;>first|exact nn e|(cases e;exact⟨rfl,rfl,rfl,rfl⟩)
 |cnd c=>cases c<;>first|exact nn e|(cases e;exact⟨rfl,rfl,rfl,rfl⟩)
 |exp c=>cases c<;>first|exact nn e|(cases e;exact⟨rfl,rfl,rfl,rfl⟩)
 |day d=>exact nn e
 |unit d=>exact nn e
def A8J: ∀h:Hd,A7R h.srt (Kr h.wd)=some h:=by intro h;cases h<;>decide
def A2m{s:Srt}{t:List Nat}{h:Hd}(e:A7R s t=some h):h.srt=s/\Kr h.wd=t:=by have:=List.find?_some e;simpa using this
def V2(t:List Nat):Option Int:=match Md t with
 |some (z,[])=>some z
 |_=>none
def R5(t:List Nat)(z:Int):V2 t=some z↔t=Kz z/\z.natAbs<10^9:=by
 unfold V2;constructor
 ·intro h
  cases hi:Md t with
  |none=>rw[hi]at h;cases h
  |some x=>
   obtain⟨y,r⟩:=x;rw[hi]at h
   cases r with
   |cons a b=>cases h
   |nil=>cases h;obtain⟨h1,h2⟩:=A8H hi;exact⟨by simpa using h1,h2⟩
 ·rintro⟨rfl,h⟩;have:=B1G h (r:=[]) (λc hc=>by simp at hc);rw[Hw]at this;rw[this]
noncomputable def E4(s:Srt)(t:List Nat):Option Nd:=match s with
 |.c=>if t=Kr "nothing" then some (.con .nothing) else none
 |.p=>none
 |.u=>match t with
  |[a]=>if 65<=a/\a<69 then some (.unit (a -65)) else none
  |_=>none
 |.x=>match t with
  |[a]=>if 97<=a/\a<105 then some (.exp (.seen (a -97))) else(V2 t).map λz=>.exp (.num z)
  |_=>(V2 t).map λz=>.exp (.num z)
 |.d=>match V2 t with
  |some z=>if 0<=z/\z<=1000 then some (.day z.toNat) else none
  |none=>none
def C0e{s:Srt}{t:List Nat}{n:Nd}(h:E4 s t=some n):n.srt=s/\n.wf=true/\n.txt=t:=by
 have num: ∀{t:List Nat}{n:Nd},(V2 t).map (λz=>Nd.exp (.num z))=some n->n.srt=.x/\n.wf=true/\n.txt=t:=by
  intro t n h
  cases hz:V2 t with
  |none=>rw[hz]at h;cases h
  |some z=>rw[hz]at h;dsimp[Hg,Gy]at h;subst h;obtain⟨h1,h2⟩:=(R5 t z).mp hz;exact⟨rfl,by simp[Nd.wf,O3];lia,h1.symm⟩
 cases s with
 |c=>
  dsimp[E4]at h;split at h
  ·rename_i e;cases h;exact⟨rfl,rfl,e.symm⟩
  ·cases h
 |p=>cases h
 |u=>
  dsimp[E4]at h;split at h
  ·split at h
   ·cases h;exact⟨rfl,by simp[Nd.wf];lia,by simp[Nd.txt];lia⟩
   ·cases h
  ·cases h
 |x=>
  dsimp[E4]at h;split at h
  ·split at h
   ·cases h;exact⟨rfl,by simp[Nd.wf,O3];lia,by simp[Nd.txt,Kx];lia⟩
   ·exact num h
  ·exact num h
 |d=>
  dsimp[E4]at h
  cases hz:V2 t with
  |none=>rw[hz]at h;cases h
  |some z=>
   rw[hz]at h;simp only at h;split at h
   ·rename_i hc;cases h;obtain⟨h1,h2⟩:=(R5 t z).mp hz;refine⟨rfl,by simp[Nd.wf];lia,?_⟩;rw[h1];unfold Kz;rw[Gd (by lia)];rfl
   ·cases h
def A2D(z:Int): ∃c s,Kz z=c::s/\c<58:=by
 unfold Kz;split
 ·exact⟨45,_,rfl,by lia⟩
 ·obtain⟨c,s,e,hd⟩:=A2n (n:=z.toNat) (r:=[]);rw[Hw]at e;simp[Lc]at hd;exact⟨c,s,e,by lia⟩
def B5j{n:Nd}(hh:n.hd=none)(hw:n.wf=true):E4 n.srt n.txt=some n:=by
 cases n with
 |con c=>cases c<;>first|exact sn hh|rfl
 |cnd c=>cases c<;>exact sn hh
 |exp c=>
  cases c with
  |num z=>
   simp[Nd.wf,O3]at hw;have hz:V2 (Kz z)=some z:=(R5 _ _).mpr ⟨rfl,by lia⟩;obtain⟨c,s,e,hc⟩:=A2D z;show E4 .x (Kz z)=_;dsimp[E4];split
   ·rename_i ha;rw[e]at ha;simp at ha;rw[Gd (by lia),hz];rfl
   ·rw[hz];rfl
  |seen k=>simp[Nd.wf,O3]at hw;show E4 .x [97+k]=_;dsimp[E4];rw[Gf (by lia)];simp
  |add a b=>exact sn hh
  |sub a b=>exact sn hh
  |mul a b=>exact sn hh
 |day d=>
  simp[Nd.wf]at hw;have e:Kv d=Kz (d:Int):=by unfold Kz;rw[Gd (by lia)];rfl
  have hz:V2 (Kv d)=some (d:Int):=(R5 _ _).mpr ⟨e,by lia⟩;show E4 .d (Kv d)=_;dsimp[E4,hz];rw[Gf (by lia)];simp
 |unit u=>simp[Nd.wf]at hw;show E4 .u [65+u]=_;dsimp[E4];rw[Gf (by lia)];simp
structure Fr where
 h:Hd
 ps:List Nd
inductive Wt|s(x:Srt)|no|op
structure Rd where
 fs:List Fr
 w:Wt
 wh:Option Nd
noncomputable def B0G(R:Rd)(n:Nd):Rd:=match R.fs with
 |[]=>⟨[],.no,some n⟩
 |f::F=>⟨{f with ps:=f.ps++[n]}::F,.no,R.wh⟩
noncomputable def tk(R:Rd)(t:List Nat):Option Rd:=match R.w,R.fs with
 |.no,[]=>none
 |.no,f::F=>match f.h.want[f.ps.length]? with
  |some x=>if t=[44] then some ⟨f::F,.s x,R.wh⟩ else none
  |none=>if t=[41] then(f.h.mk f.ps).map (B0G ⟨F,.no,R.wh⟩) else none
 |.op,[]=>none
 |.op,f::F=>if t=[40] then f.h.want[0]?.map λx=>⟨f::F,.s x,R.wh⟩ else none
 |.s x,F=>match A7R x t with
  |some h=>some ⟨⟨h,[]⟩::F,.op,R.wh⟩
  |none=>(E4 x t).map (B0G R)
def W1:Rd->List (List Nat)->Option Rd
 |R,[]=>some R
 |R,t::ts=>(tk R t).bind λR'=>W1 R' ts
theorem A6b: ∀(a b:List (List Nat))(R:Rd),W1 R (a++b)=(W1 R a).bind λR'=>W1 R' b
 |[],b,R=>rfl
 |t::a,b,R=>by
  show(tk R t).bind (λR'=>W1 R' (a++b))=((tk R t).bind λR'=>W1 R' a).bind _
  cases tk R t with
  |none=>rfl
  |some R'=>exact A6b a b R'
def rd0:Rd:=⟨[],.s .c,none⟩
def FOk(f:Fr):Prop:=f.ps.map Nd.srt=f.h.want.take f.ps.length/\∀n∈f.ps,n.wf=true
def chain:List Fr->Srt->Prop
 |[],s=>s=.c
 |f::F,s=>f.h.want[f.ps.length]?=some s/\FOk f/\chain F f.h.srt
def A0u:List Fr->List Nat
 |[]=>[]
 |f::F=>A0u F++Kr f.h.wd++[40]++f.ps.flatMap λn=>n.txt++[44]
inductive RV:Rd->List Nat->Prop
 |s{F:List Fr}{x:Srt}{t:List Nat}(h1:chain F x)(h2:t=A0u F):RV ⟨F,.s x,none⟩ t
 |op{F:List Fr}{h:Hd}{t:List Nat}(h1:chain F h.srt)(h2:t=A0u F++Kr h.wd):RV ⟨⟨h,[]⟩::F,.op,none⟩ t
 |done{n:Nd}(h1:n.srt=.c)(h2:n.wf=true):RV ⟨[],.no,some n⟩ n.txt
 |part{F:List Fr}{f:Fr}{t:List Nat}(h1:FOk f)(h2:f.ps≠[])(h3:chain F f.h.srt)(h4:t++[44]=A0u (f::F)):RV ⟨f::F,.no,none⟩ t
def FOk.add{f:Fr}{n:Nd}(h:FOk f)(hs:f.h.want[f.ps.length]?=some n.srt)(hw:n.wf=true):FOk {f with ps:=f.ps++[n]}:=by
 refine⟨?_,λm hm=>?_⟩
 ·dsimp[Ix,Gm,Ij,Gg,Km];rw[Hz,hs,h.1];rfl
 ·rcases Gp.mp hm with hm|hm
  ·exact h.2 m hm
  ·rw[Gq.mp hm];exact hw
def RV.add{F:List Fr}{n:Nd}{t:List Nat}{w:Wt}(h1:chain F n.srt)(hw:n.wf=true)(ht:t=A0u F):RV (B0G ⟨F,w,none⟩ n) (t++n.txt):=by
 cases F with
 |nil=>subst ht;show RV ⟨[],.no,some n⟩ ([]++n.txt);exact .done h1 hw
 |cons f F=>obtain⟨a,b,c⟩:=h1;subst ht;refine .part (b.add a hw) (by simp) c ?_;simp[A0u]
theorem A6z: ∀{ps:List Nd},ps≠[]->(ps.flatMap λn=>n.txt++[44])=N1 (ps.map Nd.txt)++[44]
 |[],h=>Gn rfl h
 |[a],_=>by simp[N1]
 |a::b::r,_=>by rw[Ic,A6z (by simp)];simp[N1]
def C3T{R R':Rd}{t p:List Nat}(v:RV R t)(h:tk R p=some R'):RV R' (t++p):=by
 cases v with
 | @s F x t h1 h2=>
  dsimp[tk]at h
  cases hh:A7R x p with
  |some hd=>rw[hh]at h;dsimp[Gy]at h;subst h;obtain⟨e1,e2⟩:=A2m hh;exact .op (by rw[e1];exact h1) (by rw[h2,e2])
  |none=>
   rw[hh]at h;simp only at h
   cases hl:E4 x p with
   |none=>rw[hl]at h;cases h
   |some n=>rw[hl]at h;dsimp[Hg,Gy]at h;subst h;obtain⟨e1,e2,e3⟩:=C0e hl;rw[<-e3];exact RV.add (by rw[e1];exact h1) e2 h2
 | @op F hd t h1 h2=>
  dsimp[tk]at h;split at h
  ·rename_i e;subst e
   cases hw:hd.want[0]? with
   |none=>rw[hw]at h;cases h
   |some x=>rw[hw]at h;dsimp[Hg,Gy]at h;subst h;refine .s ⟨hw,⟨rfl,by simp⟩,h1⟩ ?_;rw[h2];simp[A0u]
  ·cases h
 |done h1 h2=>cases h
 | @part F f t h1 h2 h3 h4=>
  dsimp[tk]at h
  cases hw:f.h.want[f.ps.length]? with
  |some x=>
   rw[hw]at h;simp only at h;split at h
   ·rename_i e;subst e;cases h;exact .s ⟨hw,h1,h3⟩ h4
   ·cases h
  |none=>
   rw[hw]at h;simp only at h;split at h
   ·rename_i e;subst e
    cases hm:f.h.mk f.ps with
    |none=>rw[hm]at h;cases h
    |some n=>
     rw[hm]at h;dsimp[Hg,Gy]at h;subst h;obtain⟨m1,m2,m3,m4,m5,m6⟩:=B4b hm;have ht:t++[41]=A0u F++n.txt:=by
      rw[Nd.txt_made m3,m2,m1,Gd h2];have e2:=h4;dsimp[A0u]at e2;rw[A6z h2]at e2;have e3:t=A0u F++Kr f.h.wd++[40]++N1 (f.ps.map Nd.txt):=by have:=Hm List.dropLast e2;rw[<-Hq,List.dropLast_concat,List.dropLast_concat]at this;exact this
      rw[e3];simp
     rw[ht];exact RV.add (by rw[m4];exact h3) (m5 h1.2) rfl
   ·cases h
theorem B2Z: ∀(ts:List (List Nat)){R R':Rd}{t:List Nat},RV R t->W1 R ts=some R'->RV R' (t++ts.flatten)
 |[],R,R',t,v,h=>by cases h;simpa using v
 |p::ts,R,R',t,v,h=>by
  change (tk R p).bind (λR'=>W1 R' ts)=some R' at h
  cases hk:tk R p with
  |none=>rw[hk]at h;cases h
  |some R1=>rw[hk]at h;have:=B2Z ts (C3T v hk) h;simpa using this
def A8u{ts:List (List Nat)}{R:Rd}{n:Nd}(h:W1 rd0 ts=some R)(hn:R.wh=some n): ∃c,n=.con c/\E5 c=true/\ts.flatten=Ks c:=by
 have v:RV rd0 []:=.s rfl rfl;have:=B2Z ts v h;dsimp[Iq]at this;generalize ts.flatten=l at this
 cases this with
 |s _ _=>cases hn
 |op _ _=>cases hn
 | @done m h1 h2=>
  cases hn
  cases n with
  |con c=>exact⟨c,rfl,h2,rfl⟩
  |cnd c=>simp[Nd.srt]at h1
  |exp c=>simp[Nd.srt]at h1
  |day c=>simp[Nd.srt]at h1
  |unit c=>simp[Nd.srt]at h1
 |part _ _ _ _=>cases hn
def A4f:List (List (List Nat))->List (List Nat)
 |[]=>[]|[x]=>x|x::y::r=>x++[44]::A4f (y::r)
noncomputable def A37:Exp->List (List Nat)
 |.num z=>[Kz z]
 |.seen k=>[[97+k]]
 |.add a b=>Kr "add"::[40]::(A37 a++[44]::A37 b)++[[41]]
 |.sub a b=>Kr "sub"::[40]::(A37 a++[44]::A37 b)++[[41]]
 |.mul a b=>Kr "mul"::[40]::(A37 a++[44]::A37 b)++[[41]]
noncomputable def A9E:Cond->List (List Nat)
 |.le a b=>Kr "le"::[40]::(A37 a++[44]::A37 b)++[[41]]
 |.lt a b=>Kr "lt"::[40]::(A37 a++[44]::A37 b)++[[41]]
 |.not_ a=>Kr "not"::[40]::A9E a++[[41]]
 |.all_ a b=>Kr "all"::[40]::(A9E a++[44]::A9E b)++[[41]]
 |.some_ a b=>Kr "some"::[40]::(A9E a++[44]::A9E b)++[[41]]
noncomputable def A2W:Con->List (List Nat)
 |.nothing=>[Kr "nothing"]
 |.one u=>Kr "one"::[40]::[[65+u]]++[[41]]
 |.both a b=>Kr "both"::[40]::(A2W a++[44]::A2W b)++[[41]]
 |.or_ a b=>Kr "or"::[40]::(A2W a++[44]::A2W b)++[[41]]
 |.turn a=>Kr "turn"::[40]::A2W a++[[41]]
 |.times e a=>Kr "times"::[40]::(A37 e++[44]::A2W a)++[[41]]
 |.if_ b x y=>Kr "if"::[40]::(A9E b++[44]::(A2W x++[44]::A2W y))++[[41]]
 |.at_ d a=>Kr "at"::[40]::([Kv d]++[44]::A2W a)++[[41]]
 |.when_ d b a=>Kr "when"::[40]::([Kv d]++[44]::(A9E b++[44]::A2W a))++[[41]]
 |.any_ d a=>Kr "any"::[40]::([Kv d]++[44]::A2W a)++[[41]]
def Nd.toks:Nd->List (List Nat)
 |.con c=>A2W c|.cnd b=>A9E b|.exp e=>A37 e|.day d=>[Kv d]|.unit u=>[[65+u]]
def A8m{n:Nd}(h:n.hd=none):n.toks=[n.txt]:=by
 cases n with
 |con c=>cases c<;>first|exact sn h|rfl
 |cnd c=>cases c<;>exact sn h
 |exp c=>cases c<;>first|exact sn h|rfl
 |day d=>rfl
 |unit d=>rfl
def A36{n:Nd}{h:Hd}(e:n.hd=some h):n.toks=Kr h.wd::[40]::A4f (n.kids.map Nd.toks)++[[41]]/\n.kids≠[]:=by
 cases n with
 |con c=>cases c<;>first|exact nn e|(cases e;simp[Nd.toks,A2W,Nd.kids,A4f,Hd.wd])
 |cnd c=>cases c<;>first|exact nn e|(cases e;simp[Nd.toks,A9E,Nd.kids,A4f,Hd.wd])
 |exp c=>cases c<;>first|exact nn e|(cases e;simp[Nd.toks,A37,Nd.kids,A4f,Hd.wd])
 |day d=>exact nn e
 |unit d=>exact nn e
def B5t{n:Nd}(hh:n.hd=none)(hw:n.wf=true):A7R n.srt n.txt=none:=by
 cases h:A7R n.srt n.txt with
 |none=>rfl
 |some g=>
  exfalso;obtain⟨e1,e2⟩:=A2m h
  cases n with
  |con c=>cases c<;>first|exact sn hh|(cases g<;>revert e2<;>decide)
  |cnd c=>cases c<;>exact sn hh
  |exp c=>
   cases c with
   |num z=>obtain⟨c,s,e,hc⟩:=A2D z;have e2:Kr g.wd=Kz z:=e2;rw[e]at e2;cases g<;>simp[Nd.srt,Hd.srt]at e1<;>simp[Hd.wd,Kr]at e2<;>lia
   |seen k=>cases g<;>simp[Nd.srt,Hd.srt]at e1<;>simp[Hd.wd,Nd.txt,Kx,Kr]at e2
   |add a b=>exact sn hh
   |sub a b=>exact sn hh
   |mul a b=>exact sn hh
  |day d=>cases g<;>simp[Nd.srt,Hd.srt]at e1
  |unit d=>cases g<;>simp[Nd.srt,Hd.srt]at e1
def B6T(n:Nd):n.wf=true->∀(R:Rd)(L3:List (List Nat)),R.w=.s n.srt->W1 R (n.toks++L3)=W1 (B0G R n) L3:=by
 induction hl:n.post.length using Nat.strongRecOn generalizing n with
 |_ m ih=>
  intro hw R L3 hR
  cases hh:n.hd with
  |none=>
   rw[A8m hh];show(tk R n.txt).bind (λR'=>W1 R' L3)=_;have:tk R n.txt=some (B0G R n):=by unfold tk;rw[hR];dsimp[B5t hh hw,B5j hh hw];rfl
   rw[this];rfl
  |some h=>
   obtain⟨e1,e2,e3,e4⟩:=B7X hh;obtain⟨t1,t2⟩:=A36 hh;have kids: ∀(ks done:List Nd),ks≠[]->h.want=(done++ks).map Nd.srt->(∀k∈ks,k∈n.kids)->∀(k0:Nd),ks.head?=some k0->∀L3,W1 ⟨⟨h,done⟩::R.fs,.s k0.srt,R.wh⟩ (A4f (ks.map Nd.toks)++L3)=W1 ⟨⟨h,done++ks⟩::R.fs,.no,R.wh⟩ L3:=by
    intro ks
    induction ks with
    |nil=>intro _ h0;exact Gn rfl h0
    |cons k ks ihk=>
     intro done _ hwant hin k0 hk0 L3;simp at hk0;subst hk0;have one:=λL3=>ih _ (by rw[<-hl];exact Nd.kid_lt (hin k (by simp))) k rfl (A4q hw (hin k (by simp))) ⟨⟨h,done⟩::R.fs,.s k.srt,R.wh⟩ L3 rfl
     cases ks with
     |nil=>exact one L3
     |cons k2 ks=>
      show W1 _ ((k.toks++[44]::A4f ((k2::ks).map Nd.toks))++L3)=_;rw[Hq,one];show(tk ⟨⟨h,done++[k]⟩::R.fs,.no,R.wh⟩ [44]).bind (λR'=>W1 R' (A4f ((k2::ks).map Nd.toks)++L3))=_;have hx:h.want[(done++[k]).length]?=some k2.srt:=by rw[hwant];simp
      have:tk ⟨⟨h,done++[k]⟩::R.fs,.no,R.wh⟩ [44]=some ⟨⟨h,done++[k]⟩::R.fs,.s k2.srt,R.wh⟩:=by dsimp[tk,hx];rfl
      rw[this];have:=ihk (done++[k]) (by simp) (by rw[hwant];simp) (λx hx=>hin x (by simp at hx ⊢;exact .inr hx)) k2 rfl L3;simpa using this
   rw[t1];have s1:tk R (Kr h.wd)=some ⟨⟨h,[]⟩::R.fs,.op,R.wh⟩:=by unfold tk;rw[hR,<-e2];dsimp[A8J]
   show(tk R (Kr h.wd)).bind (λR'=>W1 R' ([40]::(A4f (n.kids.map Nd.toks)++[[41]])++L3))=_;rw[s1];obtain⟨k0,hk0⟩: ∃k0,n.kids.head?=some k0:=by
    cases hk:n.kids with
    |nil=>exact Gn hk t2
    |cons k r=>exact⟨k,rfl⟩
   have hw0:h.want[0]?=some k0.srt:=by
    rw[e3]
    cases hk:n.kids with
    |nil=>exact Gn hk t2
    |cons k r=>rw[hk]at hk0;simp at hk0;subst hk0;rfl
   show(tk ⟨⟨h,[]⟩::R.fs,.op,R.wh⟩ [40]).bind (λR'=>W1 R' ((A4f (n.kids.map Nd.toks)++[[41]])++L3))=_;have s2:tk ⟨⟨h,[]⟩::R.fs,.op,R.wh⟩ [40]=some ⟨⟨h,[]⟩::R.fs,.s k0.srt,R.wh⟩:=by dsimp[tk,hw0];rfl
   rw[s2];show W1 _ ((A4f (n.kids.map Nd.toks)++[[41]])++L3)=_;rw[Hq,kids n.kids [] t2 (by simpa using e3) (λ_ h=>h) k0 hk0];show(tk ⟨⟨h,n.kids⟩::R.fs,.no,R.wh⟩ [41]).bind (λR'=>W1 R' L3)=_;have hlen:h.want[n.kids.length]?=none:=by rw[e3];simp
   have s3:tk ⟨⟨h,n.kids⟩::R.fs,.no,R.wh⟩ [41]=some (B0G ⟨R.fs,.no,R.wh⟩ n):=by dsimp[tk,hlen,e4];rfl
   rw[s3];show W1 (B0G ⟨R.fs,.no,R.wh⟩ n) L3=W1 (B0G R n) L3;rfl
def B9x{c:Con}(h:E5 c=true):W1 rd0 (A2W c)=some ⟨[],.no,some (.con c)⟩:=by have:=B6T (.con c) h rd0 [] rfl;rw[Hw]at this;exact this
def A0h(c:Nat):Bool:=c==40||c==44||c==41
def A3Q(cur:List Nat):List (List Nat):=if cur=[] then[] else[cur]
noncomputable def Y3:List Nat->List Nat->List (List Nat)
 |cur,[]=>A3Q cur
 |cur,c::r=>if A0h c=true then A3Q cur++[c]::Y3 [] r else Y3 (cur++[c]) r
def A81(cur:List Nat):(A3Q cur).flatten=cur:=by unfold A3Q;split<;>simp_all
theorem A0R: ∀(l cur:List Nat),(Y3 cur l).flatten=cur++l
 |[],cur=>by simp[Y3,A81]
 |c::r,cur=>by
  unfold Y3;split
  ·simp[A0R r,A81]
  ·rw[A0R r];simp
theorem B1o: ∀(t cur r:List Nat),(∀c∈t,A0h c=false)->Y3 cur (t++r)=Y3 (cur++t) r
 |[],cur,r,_=>by simp
 |c::t,cur,r,h=>by
  have e:Y3 cur (c::(t++r))=Y3 (cur++[c]) (t++r):=by show(if A0h c=true then _ else _)=_;rw[Gd (by rw[h c (by simp)];decide)]
  show Y3 cur (c::(t++r))=_;rw[e,B1o t _ r λx hx=>h x (by simp[hx])];simp
def MkR(r:List Nat):Prop:=∀c,r.head?=some c->A0h c=true
def B1p{t r:List Nat}(ht: ∀c∈t,A0h c=false)(hne:t≠[])(hr:MkR r):Y3 [] (t++r)=t::Y3 [] r:=by
 rw[B1o t [] r ht]
 cases r with
 |nil=>simp[Y3,A3Q,hne]
 |cons c r=>have:=hr c rfl;unfold Y3;rw[Gf this,Gf this];simp[A3Q,hne]
def A6h{c:Nat}{r:List Nat}(h:A0h c=true):Y3 [] (c::r)=[c]::Y3 [] r:=by show(if A0h c=true then _ else _)=_;rw[Gf h];rfl
def MkR.m{c:Nat}{r:List Nat}(h:A0h c=true):MkR (c::r):=λd hd=>by simp at hd;subst hd;exact h
def A6n(n:Nat): ∀c∈Kv n,A0h c=false:=λc hc=>by have:=T6 20 n c hc;simp[Lc]at this;simp[A0h];lia
def B7Q(z:Int): ∀c∈Kz z,A0h c=false:=λc hc=>by
 unfold Kz at hc;split at hc
 ·rcases Gk.mp hc with rfl|hc
  ·decide
  ·exact A6n _ c hc
 ·exact A6n _ c hc
def C2W(z:Int):Kz z≠[]:=λe=>by have:=A4T z;rw[e]at this;simp at this
def B7H{n:Nd}(h:n.hd=none)(hw:n.wf=true):(∀c∈n.txt,A0h c=false)/\n.txt≠[]:=by
 cases n with
 |con c=>cases c<;>first|exact sn h|exact⟨by decide,by decide⟩
 |cnd c=>cases c<;>exact sn h
 |exp c=>
  cases c<;>try exact sn h
  ·exact⟨B7Q _,C2W _⟩
  ·simp[Nd.txt,Kx,A0h];lia
 |day d=>exact⟨A6n _,W2 _⟩
 |unit d=>simp[Nd.txt,A0h];lia
def C0m(h:Hd):(∀c∈Kr h.wd,A0h c=false)/\Kr h.wd≠[]:=by cases h<;>exact⟨by decide,by decide⟩
def B7s(n:Nd):n.wf=true->∀r,MkR r->Y3 [] (n.txt++r)=n.toks++Y3 [] r:=by
 induction hl:n.post.length using Nat.strongRecOn generalizing n with
 |_ m ih=>
  intro hw r hr
  cases hh:n.hd with
  |none=>obtain⟨a,b⟩:=B7H hh hw;rw[A8m hh,B1p a b hr];rfl
  |some h=>
   obtain⟨e1,e2,e3,e4⟩:=B7X hh;obtain⟨t1,t2⟩:=A36 hh;obtain⟨a,b⟩:=C0m h;have kids: ∀ks:List Nd,ks≠[]->(∀k∈ks,k∈n.kids)->∀r,MkR r->Y3 [] (N1 (ks.map Nd.txt)++r)=A4f (ks.map Nd.toks)++Y3 [] r:=by
    intro ks
    induction ks with
    |nil=>intro h0;exact Gn rfl h0
    |cons k ks ihk=>
     intro _ hin r hr;have one:=λr hr=>ih _ (by rw[<-hl];exact Nd.kid_lt (hin k (by simp))) k rfl (A4q hw (hin k (by simp))) r hr
     cases ks with
     |nil=>exact one r hr
     |cons k2 ks=>
      have:=ihk (by simp) (λx hx=>hin x (by simp at hx ⊢;exact .inr hx)) r hr;show Y3 [] ((k.txt++[44]++N1 ((k2::ks).map Nd.txt))++r)=(k.toks++[44]::A4f ((k2::ks).map Nd.toks))++Y3 [] r;have e0:(k.txt++[44]++N1 ((k2::ks).map Nd.txt))++r=k.txt++44::(N1 ((k2::ks).map Nd.txt)++r):=by simp
      rw[e0,one _ (MkR.m (c:=44) (by decide)),A6h (by decide),this];simp
   have hm:n.made=true:=by obtain⟨_,_,m3,_⟩:=B4b e4;exact m3
   rw[Nd.txt_made hm,Gd t2,t1,<-e1];have e5:Kr h.wd++[40]++N1 (n.kids.map Nd.txt)++[41]++r=Kr h.wd++40::(N1 (n.kids.map Nd.txt)++41::r):=by simp
   rw[e5,B1p a b (MkR.m (c:=40) (by decide)),A6h (by decide),kids n.kids t2 (λ_ h=>h) _ (MkR.m (c:=41) (by decide)),A6h (by decide)];simp
def B9V{c:Con}(h:E5 c=true):Y3 [] (Ks c)=A2W c:=by have:=B7s (.con c) h [] (λc hc=>by simp at hc);simpa[Nd.txt,Nd.toks,Y3,A3Q] using this
def B1k(l:List Nat)(c:Con):(∃R,W1 rd0 (Y3 [] l)=some R/\R.wh=some (.con c))↔E5 c=true/\l=Ks c:=by
 constructor
 ·rintro⟨R,h1,h2⟩;obtain⟨c',e1,e2,e3⟩:=A8u h1 h2;cases e1;rw[A0R]at e3;exact⟨e2,by simpa using e3⟩
 ·rintro⟨h1,rfl⟩;exact⟨_,by rw[B9V h1];exact B9x h1,rfl⟩
def C12{l:List Nat}{R:Rd}(h1:W1 rd0 (Y3 [] l)=some R):(R.wh=none/\∀c,¬(E5 c=true/\l=Ks c))\/∃c,R.wh=some (.con c)/\E5 c=true/\l=Ks c:=by
 cases hw:R.wh with
 |none=>refine .inl ⟨rfl,λc hc=>?_⟩;obtain⟨R',e1,e2⟩:=(B1k l c).mpr hc;rw[h1]at e1;cases e1;rw[hw]at e2;cases e2
 |some n=>obtain⟨c,e1,e2,e3⟩:=A8u h1 hw;subst e1;rw[A0R]at e3;exact .inr ⟨c,rfl,e2,by simpa using e3⟩
def B6S{l:List Nat}(h1:W1 rd0 (Y3 [] l)=none): ∀c,¬(E5 c=true/\l=Ks c):=λc hc=>by obtain⟨R',e1,e2⟩:=(B1k l c).mpr hc;rw[h1]at e1;cases e1
noncomputable def K3(c:Nat):Bool:=A0h c||c==45||(decide (48<=c)&&decide (c<=57))||(decide (65<=c)&&decide (c<=68))||(decide (97<=c)&&decide (c<=122))
def A6m(n:Nat): ∀c∈Kv n,K3 c=true:=λc hc=>by have:=T6 20 n c hc;simp[Lc]at this;simp[K3];lia
def B7P(z:Int): ∀c∈Kz z,K3 c=true:=λc hc=>by
 unfold Kz at hc;split at hc
 ·rcases Gk.mp hc with rfl|hc
  ·decide
  ·exact A6m _ c hc
 ·exact A6m _ c hc
def B5c(n:Nd):n.wf=true->∀c∈n.txt,K3 c=true:=by
 induction hl:n.post.length using Nat.strongRecOn generalizing n with
 |_ m ih=>
  intro hw c hc
  cases hh:n.hd with
  |none=>
   cases n with
   |con x=>cases x<;>first|exact sn hh|(revert c;decide)
   |cnd x=>cases x<;>exact sn hh
   |exp x=>
    cases x<;>try exact sn hh
    ·exact B7P _ c hc
    ·simp[Nd.wf,O3]at hw;simp[Nd.txt,Kx]at hc;subst hc;simp[K3];lia
   |day d=>exact A6m _ c hc
   |unit d=>simp[Nd.wf]at hw;simp[Nd.txt]at hc;subst hc;simp[K3];lia
  |some h=>
   obtain⟨e1,e2,e3,e4⟩:=B7X hh;obtain⟨t1,t2⟩:=A36 hh;have hm:n.made=true:=by obtain⟨_,_,m3,_⟩:=B4b e4;exact m3
   have inn: ∀ks:List Nd,(∀k∈ks,k∈n.kids)->∀c∈N1 (ks.map Nd.txt),K3 c=true:=by
    intro ks
    induction ks with
    |nil=>intro _ c hc;simp[N1]at hc
    |cons k ks ihk=>
     intro hin c hc;have one:=ih _ (by rw[<-hl];exact Nd.kid_lt (hin k (by simp))) k rfl (A4q hw (hin k (by simp)))
     cases ks with
     |nil=>exact one c hc
     |cons k2 ks=>
      have hc:c∈k.txt++[44]++N1 ((k2::ks).map Nd.txt):=hc;rcases Gp.mp hc with hc|hc
      ·rcases Gp.mp hc with hc|hc
       ·exact one c hc
       ·rw[Gq.mp hc];decide
      ·exact ihk (λx hx=>hin x (by simp at hx ⊢;exact .inr hx)) c hc
   rw[Nd.txt_made hm,Gd t2,<-e1]at hc;have hws: ∀c∈Kr h.wd,K3 c=true:=by cases h<;>decide
   rcases Gp.mp hc with hc|hc
   ·rcases Gp.mp hc with hc|hc
    ·rcases Gp.mp hc with hc|hc
     ·exact hws c hc
     ·rw[Gq.mp hc];decide
    ·exact inn n.kids (λ_ h=>h) c hc
   ·rw[Gq.mp hc];decide
def A4i{l:List Nat}(h: ∀c,¬(E5 c=true/\l=Ks c)):Lw l=none:=by
 cases e:Lw l with
 |none=>rfl
 |some c=>exact Gn ((A3t l c).mp e).2 (h c)
def A7N{l:List Nat}(h:l.all K3=false):Lw l=none:=A4i λc hc=>by
 have:l.all K3=true:=by rw[Iw];rw[hc.2];exact B5c (.con c) hc.1
 rw[h]at this;cases this
def B44{l:List Nat}(h:600<l.length):Lw l=none:=by
 cases e:Lw l with
 |none=>rfl
 |some c=>have:=((A3t l c).mp e).1;lia
end PP
namespace L2
open PySem PySem.Spec PyProof.Rows
def B5z{K:Fg}{x:Str}{i j:Nat}{b:DB}{D:A0H}{S:St}{H:Hp}(Pv:Nat->St->Hp->Prop)(h0:Pv 0 S H)(hs: ∀k c S H T,x.cps[k]?=some c->Pv k S H->H T=none->∀N:St->Hp->Prop,(∀S' H',Pv (k+1) S' H'->N S' H')->A4e S i (.int (k:Nat)) fun S1=>A4e S1 j (.str ⟨#[c]⟩) fun S2=>J7 K b {D with nx:=N,ct:=N,bk:=D.nx} S2 (upd H T (.tup [.int (k:Nat),.str ⟨#[c]⟩])))(hd: ∀S H,Pv x.cps.size S H->D.nx S H):C2Z K (B8P x) (.two i j) b D S H:=by
 refine⟨λk m S H=>m=x.cps.size -k/\k<=x.cps.size/\Pv k S H,⟨x.cps.size,by simp,Il _,h0⟩,?_⟩;rintro k m S H ⟨rfl,hk,p⟩;by_cases hlt:k<x.cps.size
 ·refine .inr ⟨hlt,Pv (k+1),fun S' H' p'=>⟨x.cps.size - (k+1),by lia,rfl,hlt,p'⟩,?_⟩;rintro v H' ⟨T,c,rfl,hT,rfl,hc⟩;exact⟨T,_,rfl,sqT A3,rfl,_,_,rfl,⟨_,_,rfl,rfl,hs k c S H T hc p hT _ λ_ _ q=>q⟩⟩
 ·have e:k=x.cps.size:=by lia
  subst e;exact .inl ⟨Gi _,hd S H p⟩
section
variable(K:Fg)(S:St)(H:Hp)(Q:VK)
@[simp↓]def D0b(a b:DE):D2 K (.inD a b) S H Q=D2 K a S H λy H1=>D2 K b S H1 λx H2=>∃a o,x=.ref a/\A8e H2 a y o/\Q (.bl o.isSome) H2:=rfl
@[simp↓]def C96(a b:DE):D2 K (.ixD a b) S H Q=D2 K a S H λx H1=>D2 K b S H1 λy H2=>∃a v,x=.ref a/\A8e H2 a y (some v)/\Q v H2:=rfl
@[simp↓]def C6r(xs:List V):Bt.r K .dict xs H Q=∃(a:Nh)(ps:List Nh)(kvs:List (S4×V)),xs=[.ref a]/\SqL K H a (ps.map V.ref)/\Paired (λp kv=>SqT K H p [kV kv.1,kv.2]) ps kvs/\∀p,H p=none->Q (.ref p) (upd H p (.dK (R9 [] kvs))):=rfl
end
end L2
namespace PP
open PySem PySem.Spec PyProof.Rows L2 TL
def B4F(l:List Nat)(a:Nat):A71 (S l) (some (a:Int)) none=S (l.drop a):=by
 unfold A71;rw[HT.sIx_nat,HT.sIx_none,P1];have e:(S l).cps.toList=l:=by simp[S]
 rw[e];show S _=_;congr 1;rw[Jm (by simp)];by_cases h:a<=l.length
 ·rw[Jt h]
 ·rw[Nat.min_eq_right (by lia),Jn (Gi _),Jn (by lia)]
def B8p(l:List Nat)(a b:Nat)(h:a<=b)(hb:b<=l.length):A71 (S l) (some (a:Int)) (some (b:Int))=S ((l.take b).drop a):=by
 unfold A71;rw[HT.sIx_nat,HT.sIx_nat,P1];have e:(S l).cps.toList=l:=by simp[S]
 rw[e,Jt hb,Jt (Hc h hb),List.drop_take];rfl
def B7F(c:Nat):inV (.str ⟨#[c]⟩) [.str ("(":Str),.str (",":Str),.str (")":Str)]=A0h c:=by
 have e:(⟨#[c]⟩:Str)=S [c]:=rfl;have c1:(",":Str)=S [44]:=by rw[<-L6];rfl
 rw[e,B24,B23,c1];have q: ∀a:Nat,(S [a]=S [c])↔c=a:=λa=>⟨λh=>by have:=B8N h;simpa using this.symm,λh=>by rw[h]⟩;simp[inV,q,A0h];by_cases h1:c=40<;>by_cases h2:c=44<;>by_cases h3:c=41<;>simp[h1,h2,h3]
def pV(P:List (List Nat)):List V:=P.map λt=>.str (S t)
inductive B6N(vs:List V)(H:Hp)(Q:VK)(E:XK):Prop
 |mk(l:List Nat)(_:vs=[.str (S l)])(_:(∀c∈l,c<128))(_:l.length<=600)(_: ∀H' p,A5 H H'->H p=none->H' p=some (.lst (pV (Y3 [] l)))->Q (.ref p) H')
variable{P:Nk}{w:World}{K:Fg}{mg:MG}{base:Heap}(T:Txt P w K mg)
def B2k:T.A47.C T base 1 B6N:=by
 refine T.A47.g T (A5m) [none,none,none,none] (λ_ _=>trivial) ?_;obtain⟨l,rfl,hl,h6,k⟩;have hsz:(S l).cps.size=l.length:=by simp[S]
 have hall:(S l).cps.all (· <128)=true:=by rw[Array.all_eq_true];intro i hi;exact Hv (hl _ (by simp[S]))
 simp[A5m];intro p hp;simp;refine⟨by simpa using hall,?_⟩;refine B5z (x:=S l) (λi J H'=>A5 H H'/\i<=l.length/\∃(st:Nat)(R:List (List Nat))(u v:Option V),J=[some (.str (S l)),some (.ref p),some (.int st),u,v]/\H' p=some (.lst (pV R))/\st<=i/\R.length<=2*i/\R++Y3 ((l.take i).drop st) (l.drop i)=Y3 [] l) ?_ ?_ ?_
 ·exact⟨A5.new hp,Il _,0,[],_,_,rfl,A3,Gi _,by simp,by simp⟩
 ·rintro i c J H1 t hc ⟨s,hi,st,R,u,v,rfl,h1,h2,h3,h4⟩ ht N hN;have hc':l[i]?=some c:=by simpa[S] using hc
  have hil:i<l.length:=(Hl.mp hc').1;have hdr:l.drop i=c::l.drop (i+1):=by rw[Jz hil];congr 1;simpa[hil] using hc'
  have htk:l.take (i+1)=l.take i++[c]:=A1z hc';have np:p≠t:=A2 h1 ht;simp[B7F];by_cases hm:A0h c=true
  ·dsimp[hm,if_true];have e5:Y3 ((l.take i).drop st) (l.drop i)=A3Q ((l.take i).drop st)++[c]::Y3 [] (l.drop (i+1)):=by rw[hdr];show(if A0h c=true then _ else _)=_;rw[Gf hm]
   have e6:(l.take (i+1)).drop (i+1)=[]:=by simp
   have h1':upd H1 t (.tup [.int (i:Nat),.str ⟨#[c]⟩]) p=some (.lst (pV R)):=by rw[A4 np];exact h1
   by_cases hst:st<i
   ·have e7:A3Q ((l.take i).drop st)=[(l.take i).drop st]:=by unfold A3Q;rw[Gd];intro h0;have:=Hm List.length h0;simp at this;lia
    simp[hst,↓Lsn np,↓iLn np,↓Ls h1,↓iL h1,B8p l st i h2 hi,sizeLine_eq,P1];refine⟨by lia,by simp[pV];lia,by simp[pV];lia,hN _ _ ⟨(s.over (s.free ht)).over hp,hil,i+1,R++[(l.take i).drop st,[c]],_,_,by simp;exact⟨rfl,rfl⟩,by rw[A3];simp[pV];rfl,Gi _,by simp;lia,?_⟩⟩;rw[e6,<-h4,e5,e7];simp
   ·have e7:A3Q ((l.take i).drop st)=[]:=by unfold A3Q;rw[Gf];apply Jn;simp;lia
    simp[hst,↓Lsn np,↓iLn np,↓Ls h1,↓iL h1,sizeLine_eq];refine⟨by simp[pV];lia,hN _ _ ⟨(s.over (s.free ht)).over hp,hil,i+1,R++[[c]],_,_,by simp;exact⟨rfl,rfl⟩,by rw[A3];simp[pV];rfl,Gi _,by simp;lia,?_⟩⟩;rw[e6,<-h4,e5,e7];simp
  ·dsimp[Bool.not_eq_true]at hm;simp[hm];refine hN _ _ ⟨s.over (s.free ht),hil,st,R,_,_,rfl,by rw[A4 np];exact h1,by lia,by lia,?_⟩;rw[<-h4,hdr,htk,List.drop_append_of_le_length (by simp;lia)];have:Y3 ((l.take i).drop st) (c::l.drop (i+1))=Y3 ((l.take i).drop st++[c]) (l.drop (i+1)):=by show(if A0h c=true then _ else _)=_;rw[Gd (by rw[hm];decide)]
   rw[this]
 ·rintro J H1 ⟨s,hi,st,R,u,v,rfl,h1,h2,h3,h4⟩;rw[hsz]at h2 h3 h4;dsimp[Ho,List.drop_length]at h4;simp[P1,sizeLine_eq];refine⟨by lia,?_⟩;by_cases hst:st<l.length
  ·simp[hst,↓Ls h1,↓iL h1,B4F,P1,sizeLine_eq];refine⟨by lia,by simp[pV];lia,k _ _ (s.over hp) hp ?_⟩;rw[A3,<-h4];have:l.drop st≠[]:=by intro h0;have:=Hm List.length h0;simp at this;lia
   simp[Y3,A3Q,this,pV]
  ·simp[hst];refine k _ _ s hp ?_;rw[h1,<-h4];have:l.drop st=[]:=Jn (by lia);simp[Y3,A3Q,this,pV]
def A0d:List Nat:=Kr "(),-0123456789ABCDabcdefghijklmnopqrstuvwxyz"
def A4d:("(),-0123456789ABCDabcdefghijklmnopqrstuvwxyz":Str).cps.toList=A0d:=by rw[<-L6];simp[S,A0d]
def A8D(c:Nat):c∈A0d↔K3 c=true:=by
 by_cases h:c<128
 ·have: ∀c:Fin 128,(c.val∈A0d↔K3 c.val=true):=by decide+kernel
  exact this ⟨c,h⟩
 ·have: ∀d∈A0d,d<128:=by decide+kernel
  constructor
  ·intro hc;exact Gn (this c hc) h
  ·intro hc;simp[K3,A0h]at hc;lia
def A1g(l:List Nat):List (S4×V):=l.map λ(c:Nat)=>(.inl (c:Int),.str (S [c]))
theorem A8j: ∀(l:List Nat)(acc:List (S4×V))(z:Int),P2 (R9 acc (A1g l)) (.inl z)=if 0<=z/\z.toNat∈l then some (.str (S [z.toNat])) else P2 acc (.inl z)
 |[],acc,z=>by simp[A1g,R9]
 |c::l,acc,z=>by
  have e:R9 acc (A1g (c::l))=R9 (A6e acc (.inl (c:Int)) (.str (S [c]))) (A1g l):=rfl;rw[e,A8j l,B6r];by_cases h1:0<=z/\z.toNat∈l
  ·rw[Gf h1,Gf ⟨h1.1,Gh _ h1.2⟩]
  ·rw[Gd h1];by_cases h2:z=(c:Int)
   ·subst h2;rw[Gf rfl,Gf ⟨by lia,by simp⟩];simp
   ·rw[Gd (by simpa using h2),Gd];rintro⟨a,b⟩;rcases Gk.mp b with b|b
    ·exact h2 (by lia)
    ·exact h1 ⟨a,b⟩
def B3e(l:List (List Nat)):PySem.Txt.join ("":Str) (l.map S)=S l.flatten:=by
 rw[B4h,<-C0J (Str.join _ _)];show S (tl _)=_;rw[A9F,Iu];have e:(l.map (tl∘S))=l:=by
  have:(tl∘S)=id:=by funext x;simp[S,tl]
  rw[this,List.map_id]
 have e2:tl ("":Str)=[]:=by decide+kernel
 rw[e,e2];congr 1
 induction l with
 |nil=>rfl
 |cons x r ih=>
  cases r with
  |nil=>simp[A4S]
  |cons y r=>
   show x++([]++A4S [] (y::r))=_;rw[Iq];rw[show A4S [] (y::r)=(y::r).flatten from ?_]
   ·simp
   ·refine ih ?_;have:(tl∘S)=id:=by funext x;simp[S,tl]
    rw[this,List.map_id]
noncomputable def A3r(v:V):Option V:=match v with
 |.int z=>if 0<=z/\z.toNat∈A0d then some (.str (S [z.toNat])) else none
 |_=>none
inductive B2T(vs:List V)(H:Hp)(Q:VK)(E:XK):Prop
 |mk(a:Nh)(zs:List Int)(_:vs=[.ref a])(_:H a=some (.lst (zs.map V.int)))(_:zs.length<=600)(_:(∀z∈zs,0<=z))(_: ∀H',A5 H H'->Q (if(zs.map Int.toNat).all K3=true then .str (S (zs.map Int.toNat)) else .non) H')
theorem A8t: ∀(zs:List Int),(∀z∈zs,0<=z)->(((zs.map V.int).filterMap A3r).length<zs.length/\(zs.map Int.toNat).all K3=false)\/((zs.map V.int).filterMap A3r=((zs.map λz=>[z.toNat]).map S).map V.str/\(zs.map Int.toNat).all K3=true)
 |[],_=>.inr ⟨rfl,rfl⟩
 |z::zs,h=>by
  have h0:=h z (by simp);have ih:=A8t zs λy hy=>h y (Gh _ hy);have hle:((zs.map V.int).filterMap A3r).length<=zs.length:=Hc (List.length_filterMap_le _ _) (by simp);by_cases hs:z.toNat∈A0d
  ·have e:A3r (.int z)=some (.str (S [z.toNat])):=Gf ⟨h0,hs⟩;have e2:K3 z.toNat=true:=(A8D _).mp hs;rcases ih with⟨a,b⟩|⟨a,b⟩
   ·left;refine⟨?_,?_⟩
    ·dsimp[Gm,Ib,e,Ge];lia
    ·dsimp[Gm,Ih,e2,Kd];exact b
   ·right;refine⟨?_,?_⟩
    ·dsimp[Gm,Ib,e,a]
    ·dsimp[Gm,Ih,e2,Kd];exact b
  ·have e:A3r (.int z)=none:=Gd λq=>hs q.2;have e2:K3 z.toNat=false:=by
    cases q:K3 z.toNat with
    |false=>rfl
    |true=>exact Gn ((A8D _).mpr q) hs
   left;refine⟨?_,?_⟩
   ·dsimp[Gm,Ib,e,Ge];lia
   ·dsimp[Gm,Ih,e2,Bool.false_and]
def B2a:T.A4W.C T base 1 B2T:=by
 refine T.A4W.g (N:=["numbers","signs","known","sign","number"]) T (A5h) [none,none,none,none] (λ_ _=>trivial) ?_;obtain⟨a,zs,rfl,ha,h6,h0,k⟩;simp[A5h];refine A09 (B0O (G:=λ_=>True)) (by rw[A4d];decide) (λD i acc H'=>A5 H H'/\H' D=some (.lst acc)/\acc.length=i/\∃ps:List Nh,acc=ps.map V.ref/\Paired (λp kv=>H' p=some (.tup [kV kv.1,kv.2])) ps (A1g (A0d.take i))) ?_ ?_ ?_ ?_
 ·exact λD hD=>⟨A5.new hD,A3,rfl,[],rfl,by simp[A1g];exact .nil⟩
 ·rintro D i acc H' ⟨s,h1,h2,_⟩;exact⟨trivial,h1,by lia⟩
 ·rintro D i x acc H' hD hx ⟨s,h1,h2,ps,rfl,hp⟩ Y N hY hN;rw[A4d]at hx;rw[Ha]at hx
  cases hc:A0d[i]? with
  |none=>rw[hc]at hx;cases hx
  |some c=>
   rw[hc]at hx;dsimp[Hg,Gy]at hx;subst hx;simp[Str.length,sizeLine_eq];intro p hp';have np:D≠p:=A2 h1 hp';refine hY _ _ (by rw[A4 np];exact h1) ⟨(s.over (s.free hp')).over hD,A3,by simp at h2 ⊢;exact h2,ps++[p],by simp,?_⟩;rw[A1z hc];have e:A1g (A0d.take i++[c])=A1g (A0d.take i)++[(.inl (c:Int),.str (S [c]))]:=by simp[A1g]
   rw[e];refine Paired.snoc (L2.Paired.mapP hp λq kv hq=>?_) ?_
   ·have n1:q≠D:=by rintro rfl;rw[h1]at hq;cases hq
    have n2:q≠p:=A2 hq hp';rw[A4 n1,A4 n2];exact hq
   ·rw[A4 np.symm,A3];rfl
 ·rintro D acc H1 hD ⟨s,h1,h2,ps,rfl,hp⟩;rw[A4d]at hp h2;dsimp[Gz]at hp h2;rw[Ho]at hp;simp;refine⟨ps,sqL h1,_,L2.Paired.mapP hp λq kv hq=>sqT hq,λd hd=>?_⟩;have s1:A5 H (upd H1 d (.dK (R9 [] (A1g A0d)))):=s.over (s.free hd);have ha1:upd H1 d (.dK (R9 [] (A1g A0d))) a=some (.lst (zs.map V.int)):=s1 _ _ ha;simp[↓Ls ha1];refine A0S (F3 λH' s=>s _ _ ha1) A3r (by simp[sizeLine_eq];lia) ?_ λR hR=>?_
  ·intro x hx H' s' Y N q;obtain⟨z,hz,rfl⟩:=Ip.mp hx;have hd':=s' _ _ (A3 (H:=H1) (a:=d) (o:=.dK (R9 [] (A1g A0d))));have g:=A8e.k (k:=.inl z) hd';rw[A8j]at g;have g0:P2 ([]:List (S4×V)) (.inl z)=none:=rfl;rw[g0]at g;simp;refine⟨_,g,?_⟩;by_cases hs:0<=z/\z.toNat∈A0d
   ·have e:A3r (.int z)=some (.str (S [z.toNat])):=Gf hs;rw[Gf hs]at g ⊢;rw[e]at q;simp;exact⟨_,g,q⟩
   ·have e:A3r (.int z)=none:=Gd hs;rw[Gd hs];rw[e]at q;simp;exact q
  ·have nR:a≠R:=A2 ha1 hR;have few:=A8t zs h0;generalize (zs.map V.int).filterMap A3r=F at few ⊢;have s2:=s1.trans (A5.new (o:=.lst F) hR);simp[↓Lsn nR,↓Ls ha1];rcases few with⟨c1,c2⟩|⟨c1,c2⟩
   ·have:=k _ s2;rw[c2]at this;simpa[c1] using this
   ·have:=k _ s2;rw[c2]at this;have hl:F.length=zs.length:=by rw[c1];simp
    have hnl: ¬F.length<zs.length:=by lia
    rw[Gd hnl];refine⟨(zs.map λz=>[z.toNat]).map S,c1,?_,?_⟩
    ·have e1: ∀ys:List Int,(((ys.map λz=>[z.toNat]).map S).map (·.length)).sum=ys.length:=by
      intro ys
      induction ys with
      |nil=>rfl
      |cons y ys ih=>dsimp[Gm,List.sum_cons,P1,ih,Ge,Gr];lia
     rw[e1];have e2:("":Str).length=0:=by decide+kernel
     rw[e2];lia
    ·rw[B3e];have e: ∀ys:List Int,(ys.map λz=>[z.toNat]).flatten=ys.map Int.toNat:=by
      intro ys
      induction ys with
      |nil=>rfl
      |cons z zs ih=>simp;exact ih
     rw[e];simpa using this
end PP
namespace PP
open PySem PySem.NumText
def B5o(t:List Nat)(h: ∀c∈t,c<128):PySem.Txt.isdigit (S t)=(decide (t≠[])&&t.all Lc):=by
 have key: ∀c:Fin 128,Unicode.isDigit c.val=Lc c.val:=by decide+kernel
 have e:t.all Unicode.isDigit=t.all Lc:=by rw[Im];dsimp[Iw];exact⟨λq c hc=>by rw[<-key ⟨c,h c hc⟩];exact q c hc,λq c hc=>by rw[key ⟨c,h c hc⟩];exact q c hc⟩
 unfold PySem.Txt.isdigit;rw[P1,<-e];have:(S t).cps.all Unicode.isDigit=t.all Unicode.isDigit:=by simp[S]
 rw[this];cases t<;>simp
def B01(t:List Nat)(a:Nat):PySem.Txt.startswith (S t) (S [a])=decide (t.head?=some a):=by
 unfold PySem.Txt.startswith Builtin.Str.subAt;rw[P1,P1]
 cases t with
 |nil=>simp
 |cons b r=>
  have e:(S (b::r)).cps.extract 0 (0+(S [a]).length)= #[b]:=by rw[P1];apply Array.ext';simp[S]
  rw[show(0+[a].length)=1 from rfl];simp;have e2:(S (b::r)).cps.extract 0 1= #[b]:=by apply Array.ext';simp[S]
  rw[e2];simp[S];rw[Im];simp
def A0B(t:List Nat):List Nat:=if t.head?=some 45 then t.tail else t
noncomputable def A6u(t:List Nat):Bool:=((decide (A0B t≠[])&&(A0B t).all Lc)&&decide ((A0B t).length<=9))&&(decide (t=[48])||!decide ((A0B t).head?=some 48))
def A8A{d:List Nat}(h1:d≠[])(h2:d.all Lc=true)(h3:d.length<=9)(h4:d=[48]\/d.head?≠some 48):d=Kv (X2 d)/\X2 d<10^9:=by
 have h2: ∀c∈d,Lc c=true:=by simpa using h2
 constructor
 ·refine(A80 d h2 h1 (λhl=>?_) 20 (by lia)).symm;rcases h4 with rfl|h4
  ·simp at hl
  ·exact h4
 ·exact Gv (B6q d h2) (Hu (by decide) h3)
def B5q(t:List Nat):A6u t=(V2 t).isSome:=by
 rw[Im];constructor
 ·intro h;dsimp[A6u,Ga,Ht,Gb,Jo,decide_eq_false_iff_not]at h;obtain⟨⟨⟨h1,h2⟩,h3⟩,h4⟩:=h;by_cases hm:t.head?=some 45
  ·obtain⟨r,rfl⟩: ∃r,t=45::r:=by
    cases t with
    |nil=>simp at hm
    |cons a r=>simp at hm;exact⟨r,by rw[hm]⟩
   have ed:A0B (45::r)=r:=rfl;rw[ed]at h1 h2 h3 h4;have h4:r.head?≠some 48:=by rcases h4 with h4|h4<;>simp_all
   obtain⟨e,hl⟩:=A8A h1 h2 h3 (.inr h4);have hp:1<=X2 r:=B3O r (by simpa using h2) h1 h4;have:V2 (45::r)=some (-(X2 r:Int)):=by
    rw[R5];refine⟨?_,by lia⟩;unfold Kz;rw[Gf (by lia)];have:(-(-(X2 r:Int))).toNat=X2 r:=by lia
    rw[this,<-e]
   rw[this];rfl
  ·have ed:A0B t=t:=Gd hm;rw[ed]at h1 h2 h3 h4;obtain⟨e,hl⟩:=A8A h1 h2 h3 h4;have:V2 t=some (X2 t:Int):=by
    rw[R5];refine⟨?_,by lia⟩;unfold Kz;rw[Gd (by lia)];have:((X2 t:Int)).toNat=X2 t:=by lia
    rw[this,<-e]
   rw[this];rfl
 ·intro h;obtain⟨z,hz⟩:=Kc.mp h;obtain⟨e,hl⟩:=(R5 t z).mp hz;have key: ∀n:Nat,n<10^9->(decide (Kv n≠[])&&(Kv n).all Lc)=true/\(Kv n).length<=9/\(1<=n->(Kv n).head?≠some 48):=λn hn=>by refine⟨?_,A1K hn,λh1=>A4w 20 n (by lia) h1⟩;dsimp[Ga,Gb,Iw];exact⟨W2 n,T6 20 n⟩
  unfold Kz at e;split at e
  ·rename_i hneg;subst e;obtain⟨k1,k2,k3⟩:=key (-z).toNat (by lia);have ed:A0B (45::Kv (-z).toNat)=Kv (-z).toNat:=rfl;dsimp[A6u,ed,Ga,Ht,Gb,Jo,decide_eq_false_iff_not];dsimp[Ga,Gb]at k1;exact⟨⟨k1,k2⟩,.inr (k3 (by lia))⟩
  ·rename_i hneg;subst e;obtain⟨k1,k2,k3⟩:=key z.toNat (by lia);obtain⟨c,s,ef,hd⟩:=A2n (n:=z.toNat) (r:=[]);rw[Hw]at ef;have ed:A0B (Kv z.toNat)=Kv z.toNat:=by unfold A0B;rw[Gd];rw[ef];simp[Lc]at hd ⊢;lia
   dsimp[A6u,ed,Ga,Ht,Gb,Jo,decide_eq_false_iff_not];dsimp[Ga,Gb]at k1;refine⟨⟨k1,k2⟩,?_⟩;by_cases h0:z.toNat=0
   ·left;rw[h0];rfl
   ·exact .inr (k3 (by lia))
def A3O(d:List Nat):digitsVal d=X2 d:=by unfold digitsVal X2;congr 1;funext a c;rw[Nat.mul_comm]
def A99{t:List Nat}{z:Int}(h:V2 t=some z):intText? (S t)=some z/\t.length<=10:=by
 obtain⟨e,hl⟩:=(R5 t z).mp h;have key: ∀n:Nat,n<10^9->AllDigits (Kv n)/\X2 (Kv n)=n/\(Kv n).length<=9:=λn hn=>by refine⟨λc hc=>?_,A29 20 n (by lia) (by lia),A1K hn⟩;have:=T6 20 n c hc;simpa[Lc] using this
 unfold Kz at e;split at e
 ·rename_i hneg;subst e;obtain⟨k1,k2,k3⟩:=key (-z).toNat (by lia);refine⟨?_,by simp;lia⟩;rw[intText_neg (cs:=Kv (-z).toNat) (by simp[S]) k1 (W2 _) (by rw[P1];simp;lia),A3O,k2];congr 1;lia
 ·rename_i hneg;subst e;obtain⟨k1,k2,k3⟩:=key z.toNat (by lia);refine⟨?_,by lia⟩;have e3:(S (Kv z.toNat)).cps.toList=Kv z.toNat:=by simp[S]
  rw[intText_digits (by rw[e3];exact k1) (by rw[e3];exact W2 _) (by rw[P1];lia),e3,A3O,k2];congr 1;lia
end PP
namespace PP
open PySem PySem.Spec PyProof.Rows L2 TL
def C4h(t:List Nat):PySem.Txt.startswith (S t) ("-":Str)=decide (t.head?=some 45):=by rw[show("-":Str)=S [45] by rw[<-L6];rfl];exact B01 t 45
def C61(t:List Nat):PySem.Txt.startswith (S t) ("0":Str)=decide (t.head?=some 48):=by rw[show("0":Str)=S [48] by rw[<-L6];rfl];exact B01 t 48
def C5p(t:List Nat):(S t=("0":Str))↔t=[48]:=by rw[show("0":Str)=S [48] by rw[<-L6];rfl];exact A5K
def C25(t:List Nat):A71 (S t) (some 1) none=S t.tail:=by have:=B4F t 1;rw[show((1:Nat):Int)=1 from rfl]at this;rw[this];cases t<;>rfl
inductive B9o(vs:List V)(H:Hp)(Q:VK)(E:XK):Prop
 |mk(t:List Nat)(_:vs=[.str (S t)])(_:(∀c∈t,c<128))(_:t.length<=100000)(_:Q (.bl (V2 t).isSome) H)
variable{P:Nk}{w:World}{K:Fg}{mg:MG}{base:Heap}(T:Txt P w K mg)
def B2m:T.A5c.C T base 1 B9o:=by
 refine T.A5c.g T (A19) [none] (λ_ _=>trivial) ?_;obtain⟨t,rfl,ht,hl,q⟩;rw[<-B5q]at q;have hd1: ∀c∈A0B t,c<128:=λc hc=>ht c (by unfold A0B at hc;split at hc;exact List.mem_of_mem_tail hc;exact hc);have hd2:(A0B t).length<=100000:=by unfold A0B;split;simp;lia;exact hl
 have P3:if PySem.Txt.isdigit (S (A0B t))=true then(S (A0B t)).length<=sizeLine/\(if(9:Int)<((S (A0B t)).length:Nat) then Q (.bl false) H else if S t=("0":Str) then Q (.bl true) H else Q (.bl !PySem.Txt.startswith (S (A0B t)) ("0":Str)) H) else Q (.bl false) H:=by
  unfold A6u at q;rw[<-B5o _ hd1]at q;rw[P1,C61]
  cases b1:PySem.Txt.isdigit (S (A0B t)) with
  |false=>rw[b1]at q;simpa using q
  |true=>
   rw[b1]at q;rw[Gf rfl];refine⟨big hd2,?_⟩;by_cases h2:(A0B t).length<=9
   ·rw[Gd (by lia)];by_cases h3:t=[48]
    ·rw[Gf ((C5p t).mpr h3)];subst h3;exact q
    ·rw[Gd (λe=>h3 ((C5p t).mp e))];simpa[h2,h3] using q
   ·rw[Gf (by lia)];simpa[h2] using q
 by_cases hm:t.head?=some 45
 ·have e:A0B t=t.tail:=Gf hm;rw[e]at P3;have hl':(S t).length<=sizeLine:=by rw[P1];exact big hl
  simp[A19,C4h,hm,C25,hl'];simpa using P3
 ·have e:A0B t=t:=Gd hm;rw[e]at P3;simp[A19,C4h,hm];simpa using P3
noncomputable def A0z:Srt->String
 |.c=>"c"|.p=>"p"|.x=>"x"|.d=>"d"|.u=>"u"
def B9f:Srt->Nat
 |.c=>99|.p=>112|.x=>120|.d=>100|.u=>117
noncomputable def A2v:Hd->String
 |.one=>"u"|.both=>"cc"|.or_=>"cc"|.turn=>"c"|.times=>"xc"|.if_=>"pcc"|.at_=>"dc"|.when_=>"dpc"|.any_=>"dc"
 |.le=>"xx"|.lt=>"xx"|.not_=>"p"|.all_=>"pp"|.some_=>"pp"|.add=>"xx"|.sub=>"xx"|.mul=>"xx"
def A2w:Option Hd->String
 |none=>""|some h=>A2v h
def A5O(x:Srt):(⟨#[B9f x]⟩:Str)=Str.ofString (A0z x):=by cases x<;>(rw[<-L6];rfl)
def B0N(h:Hd):(Str.ofString (A2v h)).cps.toList=h.want.map B9f:=by rw[<-L6];cases h<;>rfl
def A0a(h:Hd):(Str.ofString (A2v h)).length=h.want.length:=by have:=Hm List.length (B0N h);simpa[Str.length] using this
inductive B6H(vs:List V)(H:Hp)(Q:VK)(E:XK):Prop
 |mk(s:Srt)(t:List Nat)(_:vs=[.str (.ofString (A0z s)),.str (S t)])(_:Q (.str (.ofString (A2w (A7R s t)))) H)
def C0l{s:Srt}{t:List Nat}(h:A7R s t=none)(g:Hd)(hg:g.srt=s): ¬Str.ofString g.wd=S t:=by rw[<-L6,A5K];intro e;have:=A8J g;rw[hg,e,h]at this;cases this
def A61:T.A1T.C T base 1 B6H:=by
 refine T.A1T.g T (G2) [] (λ_ _=>trivial) ?_;obtain⟨s,t,rfl,q⟩
 cases hh:A7R s t with
 |some h=>obtain⟨e1,e2⟩:=A2m hh;rw[hh]at q;subst e1;rw[<-e2,L6];cases h<;>simpa[G2,Hd.srt,A0z,Hd.wd,P2,A2w,A2v] using q
 |none=>
  rw[hh]at q;have hn:=C0l hh
  cases s with
  |c=>
   have h1:=hn .one rfl;have h2:=hn .both rfl;have h3:=hn .or_ rfl;have h4:=hn .turn rfl;have h5:=hn .times rfl;have h6:=hn .if_ rfl;have h7:=hn .at_ rfl;have h8:=hn .when_ rfl;have h9:=hn .any_ rfl;dsimp[Hd.wd]at h1 h2 h3 h4 h5 h6 h7 h8 h9;by_cases h0:("nothing":Str)=S t
   ·simpa[G2,A0z,P2,h0,A2w] using q
   ·simpa[G2,A0z,P2,h0,h1,h2,h3,h4,h5,h6,h7,h8,h9,A2w] using q
  |p=>have h1:=hn .le rfl;have h2:=hn .lt rfl;have h3:=hn .not_ rfl;have h4:=hn .all_ rfl;have h5:=hn .some_ rfl;dsimp[Hd.wd]at h1 h2 h3 h4 h5;simpa[G2,A0z,P2,h1,h2,h3,h4,h5,A2w] using q
  |x=>have h1:=hn .add rfl;have h2:=hn .sub rfl;have h3:=hn .mul rfl;dsimp[Hd.wd]at h1 h2 h3;simpa[G2,A0z,P2,h1,h2,h3,A2w] using q
  |d=>simpa[G2,A0z,A2w] using q
  |u=>simpa[G2,A0z,A2w] using q
inductive B6K(vs:List V)(H:Hp)(Q:VK)(E:XK):Prop
 |mk(s:Srt)(t:List Nat)(_:vs=[.str (.ofString (A0z s)),.str (S t)])(_:(∀c∈t,c<128))(_:t.length<=100000)(_:(E4 s t=none->Q .non H))(_: ∀n,E4 s t=some n->∀H' r,A5 H H'->B0 H' r n->Q (.ref r) H')
def B0S(t:List Nat):inV (.str (S t)) [.str ("A":Str),.str ("B":Str),.str ("C":Str),.str ("D":Str)]=(E4 .u t).isSome:=by
 have e:[V.str ("A":Str),.str ("B":Str),.str ("C":Str),.str ("D":Str)]=[.str (S [65]),.str (S [66]),.str (S [67]),.str (S [68])]:=by rw[<-L6,<-L6,<-L6,<-L6];rfl
 rw[e];rw[Im];dsimp[inV,Ig,List.any_nil,C1g,A5K,Ht,Gb,Bool.or_false,E4]
 match t with
 |[]=>simp
 |[a]=>
  dsimp[List.cons.injEq,and_true];split
  ·rename_i h;simp;lia
  ·rename_i h;simp;lia
 |a::b::r=>simp
def B1w(t:List Nat):inV (.str (S t)) [.str ("a":Str),.str ("b":Str),.str ("c":Str),.str ("d":Str),.str ("e":Str),.str ("f":Str),.str ("g":Str),.str ("h":Str)]=true↔∃a,t=[a]/\97<=a/\a<105:=by
 have e:[V.str ("a":Str),.str ("b":Str),.str ("c":Str),.str ("d":Str),.str ("e":Str),.str ("f":Str),.str ("g":Str),.str ("h":Str)]=[.str (S [97]),.str (S [98]),.str (S [99]),.str (S [100]),.str (S [101]),.str (S [102]),.str (S [103]),.str (S [104])]:=by dsimp[<-L6];rfl
 rw[e];dsimp[inV,Ig,List.any_nil,C1g,A5K,Ht,Gb,Bool.or_false];constructor
 ·intro h;rcases h with h|h|h|h|h|h|h|h<;>exact⟨_,h.symm,by decide,by decide⟩
 ·rintro⟨a,rfl,h1,h2⟩;dsimp[List.cons.injEq,and_true]
  lia
def B6s{a:Nat}(h1:65<=a)(h2:a<69):S [a]∈[("A":Str),("B":Str),("C":Str),("D":Str)]/\[("A":Str),("B":Str),("C":Str),("D":Str)].idxOf (S [a])=a -65:=by
 have e:[("A":Str),("B":Str),("C":Str),("D":Str)]=[S [65],S [66],S [67],S [68]]:=by dsimp[<-L6];rfl
 rw[e];have:a=65\/a=66\/a=67\/a=68:=by lia
 rcases this with rfl|rfl|rfl|rfl<;>decide
def B7D{a:Nat}(h1:97<=a)(h2:a<105):S [a]∈[("a":Str),("b":Str),("c":Str),("d":Str),("e":Str),("f":Str),("g":Str),("h":Str)]/\[("a":Str),("b":Str),("c":Str),("d":Str),("e":Str),("f":Str),("g":Str),("h":Str)].idxOf (S [a])=a -97:=by
 have e:[("a":Str),("b":Str),("c":Str),("d":Str),("e":Str),("f":Str),("g":Str),("h":Str)]=[S [97],S [98],S [99],S [100],S [101],S [102],S [103],S [104]]:=by dsimp[<-L6];rfl
 rw[e];have:a=97\/a=98\/a=99\/a=100\/a=101\/a=102\/a=103\/a=104:=by lia
 rcases this with rfl|rfl|rfl|rfl|rfl|rfl|rfl|rfl<;>decide
def A6S(t:List Nat):(S t=("nothing":Str))↔t=Kr "nothing":=by rw[<-L6,A5K]
def A77:T.A2F.C T base 4 (B6K):=by
 refine T.A2F.g T (F9 _ _ _ _ _ _ _) [] (by nomatch O5 T,B19 T,B2l T,B2m T,O7 T,A82 T,A63 T) ?_;obtain⟨s,t,rfl,h128,h600,q1,q2⟩
 cases s with
 |c=>
  by_cases ht:t=Kr "nothing"
  ·simp[F9,A0z,A6S,ht];intro p hp;exact⟨.con .nothing,p,[],rfl,rfl,A3,.nil,by simp[Nd.kids],λH' r s pr=>q2 _ (by simp[E4,ht]) H' r ((A5.new hp).trans s) pr⟩
  ·simp[F9,A0z,A6S,ht];exact q1 (by simp[E4,ht])
 |p=>simp[F9,A0z];exact q1 rfl
 |u=>
  cases hl:E4 .u t with
  |none=>simp[F9,A0z,B0S,hl];exact q1 hl
  |some n=>
   obtain⟨a,rfl,h1,h2,rfl⟩: ∃a,t=[a]/\65<=a/\a<69/\n=.unit (a -65):=by
    unfold E4 at hl;simp only at hl;split at hl
    ·split at hl
     ·rename_i hc;exact⟨_,rfl,hc.1,hc.2,(Hf hl).symm⟩
     ·cases hl
    ·cases hl
   obtain⟨u1,u2⟩:=B6s h1 h2;simp[F9,A0z,B0S,hl,u1,u2];exact⟨a -65,rfl,by lia,λH' r s pr=>q2 _ hl H' r s pr⟩
 |x=>
  by_cases hn: ∃a,t=[a]/\97<=a/\a<105
  ·have hin:=(B1w t).mpr hn;obtain⟨a,rfl,h1,h2⟩:=hn;obtain⟨u1,u2⟩:=B7D h1 h2;simp[F9,A0z,hin,u1,u2];exact⟨a -97,rfl,by lia,λH' r s pr=>q2 _ (by simp[E4,h1,h2]) H' r s pr⟩
  ·have hin:=Bool.eq_false_iff.mpr (λh=>hn ((B1w t).mp h));have hl:E4 .x t=(V2 t).map λz=>.exp (.num z):=by
    unfold E4;simp only;split
    ·rw[Gd (λh=>hn ⟨_,rfl,h.1,h.2⟩)]
    ·rfl
   simp[F9,A0z,hin];refine⟨t,rfl,h128,h600,?_⟩
   cases hz:V2 t with
   |none=>simp;exact q1 (by rw[hl,hz];rfl)
   |some z=>
    obtain⟨i1,i2⟩:=A99 hz;have hb:=((R5 t z).mp hz).2;have i3:(S t).length<=640:=by rw[P1];lia
    simp[↓gX i1,i3];exact⟨z,rfl,by lia,λH' r s pr=>q2 _ (by rw[hl,hz];rfl) H' r s pr⟩
 |d=>
  simp[F9,A0z];refine⟨t,rfl,h128,h600,?_⟩
  cases hz:V2 t with
  |none=>simp;exact q1 (by simp[E4,hz])
  |some z=>
   obtain⟨i1,i2⟩:=A99 hz;have i3:(S t).length<=640:=by rw[P1];lia
   by_cases hd:0<=z/\z<=1000
   ·simp[↓gX i1,i3,A0q,hd.1,hd.2];exact⟨z.toNat,by rw[Int.toNat_of_nonneg hd.1],by lia,λH' r s pr=>q2 _ (by simp[E4,hz,hd.1,hd.2]) H' r s pr⟩
   ·by_cases h0:0<=z
    ·have h1: ¬z<=1000:=λh=>hd ⟨h0,h⟩;simp[↓gX i1,i3,A0q,h0,h1];exact q1 (by simp[E4,hz,h1])
    ·simp[↓gX i1,i3,A0q,h0];exact q1 (by simp[E4,hz,h0])
theorem A3s: ∀(F:List Fr)(f:Fr)(n:Nd),f∈F->n∈f.ps->n.txt.length<=(A0u F).length
 |[],_,_,h,_=>by simp at h
 |g::F,f,n,h,hn=>by
  dsimp[A0u,Gg];rcases Gk.mp h with rfl|h
  ·have: ∀l:List Nd,n∈l->n.txt.length<=(l.flatMap λn=>n.txt++[44]).length:=by
    intro l
    induction l with
    |nil=>intro h;simp at h
    |cons m l ih=>
     intro h;rw[Ic,Gg];rcases Gk.mp h with rfl|h
     ·simp;lia
     ·have:=ih h;lia
   have:=this _ hn
   lia
  ·have:=A3s F f n h hn
   lia
def RV.fit{R:Rd}{t:List Nat}(v:RV R t): ∀f∈R.fs,∀n∈f.ps,n.txt.length<=t.length+1:=by
 intro f hf n hn
 cases v with
 | @s F x t h1 h2=>subst h2;have:=A3s F f n hf hn;lia
 | @op F h t h1 h2=>
  subst h2;rcases Gk.mp hf with rfl|hf
  ·simp at hn
  ·have:=A3s F f n hf hn;simp;lia
 |done h1 h2=>simp at hf
 | @part F g t h1 h2 h3 h4=>have:=A3s (g::F) f n hf hn;rw[<-h4]at this;simpa using this
theorem A3S: ∀{F:List Fr}{s:Srt},chain F s->∀f∈F,f.ps.length<=3
 |[],_,_,f,h=>by simp at h
 |g::F,s,⟨a,b,c⟩,f,h=>by
  rcases Gk.mp h with rfl|h
  ·have h1:=(Hl.mp a).1;have h2:f.h.want.length<=3:=by cases f.h<;>decide
   lia
  ·exact A3S c f h
def RV.few{R:Rd}{t:List Nat}(v:RV R t): ∀f∈R.fs,f.ps.length<=3:=by
 intro f hf
 cases v with
 | @s F x t h1 h2=>exact A3S h1 f hf
 | @op F h t h1 h2=>
  rcases Gk.mp hf with rfl|hf
  ·simp
  ·exact A3S h1 f hf
 |done h1 h2=>simp at hf
 | @part F g t h1 h2 h3 h4=>
  rcases Gk.mp hf with rfl|hf
  ·have:=Hm List.length h1.1;have h2:f.h.want.length<=3:=by cases f.h<;>decide
   simp at this;lia
  ·exact A3S h3 f hf
def wT:Wt->String
 |.s x=>A0z x|.no=>""|.op=>"("
inductive A2c(H:Hp):List (Nh×Nh)->List Fr->Prop
 |nil:A2c H [] []
 |cons{a dx lp:Nh}{as:List Nh}{f:Fr}{fr:List (Nh×Nh)}{F:List Fr}(h1:H a=some (.ins ad.K4 dx (A1a (.str (.ofString f.h.wd)) (.str (.ofString (A2v f.h))) (.ref lp))))(h2:H lp=some (.lst (as.map V.ref)))(h3:B4 H as f.ps)(r:A2c H fr F):A2c H ((a,lp)::fr) (f::F)
def A2c.mono{H H':Hp}(ex:O8 H H'){fr:List (Nh×Nh)}{F:List Fr}(h:A2c H fr F)(k: ∀p∈fr,∀o,(H p.1=some o->H' p.1=some o)/\(H p.2=some o->H' p.2=some o)):A2c H' fr F:=by
 induction h with
 |nil=>exact .nil
 |cons h1 h2 h3 r ih=>exact .cons ((k (_,_) (Hi ..) _).1 h1) ((k (_,_) (Hi ..) _).2 h2) (h3.ext ex) (ih λp hp=>k p (Gh _ hp))
def A2c.kind{H:Hp}{fr:List (Nh×Nh)}{F:List Fr}(h:A2c H fr F): ∀p∈fr,(∃dx a b c,H p.1=some (.ins ad.K4 dx (A1a a b c)))/\∃xs,H p.2=some (.lst xs):=by
 induction h with
 |nil=>intro p hp;simp at hp
 |cons h1 h2 h3 r ih=>
  intro p hp;rcases Gk.mp hp with rfl|hp
  ·exact⟨⟨_,_,_,_,h1⟩,_,h2⟩
  ·exact ih p hp
def lps(fr:List (Nh×Nh)):List Nh:=fr.map (·.2)
structure V1(H:Hp)(r dr lf:Nh)(fr:List (Nh×Nh))(R:Rd)(wv:V):Prop where
 cell:H r=some (.ins ad.D0 dr (M8 (.ref lf) (.str (.ofString (wT R.w))) wv))
 frs:H lf=some (.lst (fr.map λp=>V.ref p.1).reverse)
 at_:A2c H fr R.fs
 who:(R.wh=none/\wv=.non)\/∃n a,R.wh=some n/\wv=.ref a/\B0 H a n
 nd:lf∉lps fr/\(lps fr).Nodup
def rX(r lf:Nh)(fr:List (Nh×Nh)):List Nh:=r::lf::lps fr
def RdQ(H:Hp)(r dr lf:Nh)(fr:List (Nh×Nh))(R':Rd)(N:Hp->Prop):Prop:=
 ∀H' fr' wv',V1 H' r dr lf fr' R' wv'->Kp (rX r lf fr) H H'->(∀p∈lps fr',p∈lps fr\/H p=none)->N H'
def V1.who_ext{H H':Hp}{R:Rd}{wv:V}(ex:O8 H H')(h:(R.wh=none/\wv=.non)\/∃n a,R.wh=some n/\wv=.ref a/\B0 H a n):(R.wh=none/\wv=.non)\/∃n a,R.wh=some n/\wv=.ref a/\B0 H' a n:=by
 rcases h with h|⟨n,a,h1,h2,h3⟩
 ·exact .inl h
 ·exact .inr ⟨n,a,h1,h2,h3.ext ex⟩
def V1.mono{H H':Hp}{r dr lf:Nh}{fr:List (Nh×Nh)}{R:Rd}{wv:V}(h:V1 H r dr lf fr R wv)(s:A5 H H'):V1 H' r dr lf fr R wv:=
 ⟨s _ _ h.cell,s _ _ h.frs,h.at_.mono s.ext λp hp o=>⟨s _ _,s _ _⟩,V1.who_ext s.ext h.who,h.nd⟩
def V1.r_lf{H:Hp}{r dr lf:Nh}{fr:List (Nh×Nh)}{R:Rd}{wv:V}(h:V1 H r dr lf fr R wv):r≠lf:=by rintro rfl;have:=h.cell;rw[h.frs]at this;cases this
def V1.fr_r{H:Hp}{r dr lf:Nh}{fr:List (Nh×Nh)}{R:Rd}{wv:V}(h:V1 H r dr lf fr R wv): ∀p∈fr,p.1≠r/\p.2≠r/\p.1≠lf/\p.2≠lf:=by
 intro p hp;obtain⟨⟨dx,a,b,c,h1⟩,xs,h2⟩:=h.at_.kind p hp;refine⟨?_,?_,?_,?_⟩
 ·rintro rfl;rw[h.cell]at h1;simp[M8,A1a]at h1
 ·rintro rfl;rw[h.cell]at h2;cases h2
 ·rintro rfl;rw[h.frs]at h1;cases h1
 ·rintro e;exact h.nd.1 (e▸List.mem_map_of_mem hp)
def V1.want{H:Hp}{r dr lf:Nh}{fr:List (Nh×Nh)}{R:Rd}{wv:V}(h:V1 H r dr lf fr R wv)(w:Wt):
  V1 (upd H r (.ins ad.D0 dr (M8 (.ref lf) (.str (.ofString (wT w))) wv))) r dr lf fr {R with w:=w} wv:=by
 have ex:O8 H (upd H r (.ins ad.D0 dr (M8 (.ref lf) (.str (.ofString (wT w))) wv))):=(O8.refl H).updI h.cell (A22 ..);refine⟨A3,by rw[A4 h.r_lf.symm];exact h.frs,h.at_.mono ex λp hp o=>?_,V1.who_ext ex h.who,h.nd⟩;obtain⟨a,b,_⟩:=h.fr_r p hp;rw[A4 a,A4 b];exact⟨id,id⟩
inductive B1c(vs:List V)(H:Hp)(Q:VK)(E:XK):Prop
 |mk(x dx:Nh)(_:vs=[.ref x])(_:H x=some (.ins ad.D0 dx []))(_: ∀H' l,(∀b o,H b=some o->b≠x->H' b=some o)->H l=none->V1 H' x dx l [] rd0 .non->Q .non H')
inductive B2V(vs:List V)(H:Hp)(Q:VK)(E:XK):Prop
 |mk(x dx:Nh)(a b:V)(_:vs=[.ref x,a,b])(_:H x=some (.ins ad.K4 dx []))(_: ∀H' l,(∀b o,H b=some o->b≠x->H' b=some o)->H l=none->H' x=some (.ins ad.K4 dx (A1a a b (.ref l)))->H' l=some (.lst [])->Q .non H')
inductive C4p(vs:List V)(H:Hp)(Q:VK)(E:XK):Prop
 |mk(r dr lf a:Nh)(fr:List (Nh×Nh))(R:Rd)(wv:V)(n:Nd)(_:vs=[.ref r,.ref a])(_:V1 H r dr lf fr R wv)(_:B0 H a n)(_:(∀f∈R.fs,f.ps.length<=3))(_:RdQ H r dr lf fr (B0G R n) λH'=>Q .non H')
def B8y(T:Txt P w K mg):Kls P w K mg base 1 "Reader" ad.D0 ["self"] (B1c):=by refine T.B7K.g T (A3Z) [] (λ_ _=>trivial) ?_;obtain⟨x,dx,rfl,hx,k⟩;simp[A3Z];intro l hl;have n1:x≠l:=A2 hx hl;simp[↓N0 n1,↓Ob hx,D8];refine k _ l (λb o e hb=>?_) hl ⟨A3,by rw[A4 n1.symm,A3];rfl,.nil,.inl ⟨rfl,rfl⟩,by simp[lps]⟩;rw[A4 hb,A4 (A2 e hl)];exact e
def C0A(T:Txt P w K mg):Kls P w K mg base 1 "Frame" ad.K4 ["self","word","wanted"] (B2V):=by refine T.C0j.g T (A5t) [] (λ_ _=>trivial) ?_;obtain⟨x,dx,a,b,rfl,hx,k⟩;simp[A5t,↓Ob hx,D8];intro l hl;have n1:x≠l:=A2 A3 hl;have hl':=(F2.mp hl).2;simp[↓N0 n1,D8];refine k _ l (λb o e hb=>?_) hl' A3 (by rw[A4 n1.symm,A3]);rw[A4 hb,A4 (A2 e hl'),A4 hb];exact e
def A65:T.A6R.C T base 1 (C4p):=by
 refine T.A6R.g T (A7o) [] (λ_ _=>trivial) ?_;obtain⟨r,dr,lf,a,fr,R,wv,n,rfl,h,pa,h3,k⟩;have h':=h.want .no;obtain⟨F,w',wh⟩:=R;dsimp[wT]at h';generalize hH:upd H r (.ins ad.D0 dr (M8 (.ref lf) (.str (.ofString "")) wv))=H1 at h';have kp1:Kp (rX r lf fr) H H1:=by rw[<-hH];exact(Kp.refl _ _).upd (.inl (by simp[rX]))
 have ex1:O8 H H1:=by rw[<-hH];exact(O8.refl H).updI h.cell (A22 ..)
 have pa1:=pa.ext ex1;simp[A7o,↓Ob h.cell];rw[hH];have at1:=h'.at_
 cases F with
 |nil=>cases at1;simp[↓Ob h'.cell,↓Ls h'.frs];exact k _ [] _ ⟨A3,by rw[A4 h'.r_lf.symm];exact h'.frs,.nil,.inr ⟨n,a,rfl,rfl,pa1.ext ((O8.refl _).updI h'.cell (A22 ..))⟩,by simp[lps]⟩ (kp1.upd (a:=r) (.inl (by simp[rX]))) (by simp[lps])
 |cons f F=>
  cases at1 with
  | @cons fa dx lp as _ fr _ g1 g2 g3 g4=>
   have hnd:=h'.nd;dsimp[lps,Gm,Gk,not_or,Jc]at hnd;have hr:=h'.fr_r (fa,lp) (by simp);simp[↓Ob h'.cell,↓Ls h'.frs,↓Ob g1,↓iL g2,↓Ls g2];have e2:O8 H1 (upd H1 lp (.lst (as.map V.ref++[.ref a]))):=(O8.refl H1).updL g2;refine⟨A8c (by have:=h3 f (by simp);have:=g3.1;simp;lia),k _ ((fa,lp)::fr) wv ⟨by rw[A4 hr.2.1.symm];exact h'.cell,by rw[A4 hr.2.2.2.symm];exact h'.frs,?_,V1.who_ext e2 h'.who,h'.nd⟩ (kp1.upd (.inl (by simp[rX,lps]))) λp hp=>.inl hp⟩;refine .cons (dx:=dx) (as:=as++[a]) (by rw[A4];exact g1;rintro rfl;rw[g1]at g2;cases g2) (by rw[A3];simp) ((g3.ext e2).append (.cons (pa1.ext e2) .nil)) (g4.mono e2 λp hp o=>?_);have kd:=g4.kind p hp;obtain⟨⟨_,_,_,_,k1⟩,_⟩:=kd;have n1:p.1≠lp:=by intro e;rw[e,g2]at k1;cases k1
   have n2:p.2≠lp:=λe=>hnd.2.1 (e▸List.mem_map_of_mem hp);rw[A4 n1,A4 n2];exact⟨id,id⟩
theorem A2j: ∀F:List Fr,F.length<=(A0u F).length
 |[]=>by simp
 |f::F=>by have:=A2j F;simp[A0u];lia
def RV.many{R:Rd}{t:List Nat}(v:RV R t):R.fs.length<=t.length+1:=by
 cases v with
 | @s F x t h1 h2=>subst h2;have:=A2j F;simp;lia
 | @op F h t h1 h2=>subst h2;have:=A2j F;simp;lia
 |done h1 h2=>simp
 | @part F g t h1 h2 h3 h4=>have:=A2j (g::F);rw[<-h4]at this;simpa using this
def A2c.len{H:Hp}{fr:List (Nh×Nh)}{F:List Fr}(h:A2c H fr F):fr.length=F.length:=by
 induction h with
 |nil=>rfl
 |cons h1 h2 h3 r ih=>simp[ih]
def V1.pop{H:Hp}{r dr lf:Nh}{p:Nh×Nh}{fr:List (Nh×Nh)}{f:Fr}{F:List Fr}{w:Wt}{wh:Option Nd}{wv:V}(h:V1 H r dr lf (p::fr) ⟨f::F,w,wh⟩ wv):
  V1 (upd H lf (.lst (fr.map λp=>V.ref p.1).reverse)) r dr lf fr ⟨F,w,wh⟩ wv:=by
 have ex:O8 H (upd H lf (.lst (fr.map λp=>V.ref p.1).reverse)):=(O8.refl H).updL h.frs;have nd:=h.nd;dsimp[lps,Gm,Gk,not_or,Jc]at nd;have at_:=h.at_
 cases at_ with
 |cons g1 g2 g3 g4=>refine⟨by rw[A4 h.r_lf];exact h.cell,A3,g4.mono ex λq hq o=>?_,V1.who_ext (R:=⟨f::F,w,wh⟩) ex h.who,nd.1.2,nd.2.2⟩;obtain⟨_,_,a,b⟩:=h.fr_r q (by simp[hq]);rw[A4 a,A4 b];exact⟨id,id⟩
def V1.push{H:Hp}{r dr lf a dx lp:Nh}{fr:List (Nh×Nh)}{g:Hd}{F:List Fr}{w:Wt}{wh:Option Nd}{wv:V}(h:V1 H r dr lf fr ⟨F,w,wh⟩ wv)(h1:H a=some (.ins ad.K4 dx (A1a (.str (.ofString g.wd)) (.str (.ofString (A2v g))) (.ref lp))))(h2:H lp=some (.lst []))(n1:lf≠lp)(n2:lp∉lps fr):
  V1 (upd H lf (.lst ((fr.map λp=>V.ref p.1).reverse++[.ref a]))) r dr lf ((a,lp)::fr) ⟨⟨g,[]⟩::F,w,wh⟩ wv:=by
 have ex:O8 H (upd H lf (.lst ((fr.map λp=>V.ref p.1).reverse++[.ref a]))):=(O8.refl H).updL h.frs;have n3:a≠lf:=by rintro rfl;rw[h.frs]at h1;cases h1
 refine⟨by rw[A4 h.r_lf];exact h.cell,by rw[A3];simp,.cons (dx:=dx) (as:=[]) (by rw[A4 n3];exact h1) (by rw[A4 n1.symm];exact h2) .nil (h.at_.mono ex λq hq o=>?_),V1.who_ext (R:=⟨F,w,wh⟩) ex h.who,?_,?_⟩
 ·obtain⟨_,_,a,b⟩:=h.fr_r q hq;rw[A4 a,A4 b];exact⟨id,id⟩
 ·dsimp[lps,Gm,Gk,not_or];exact⟨n1,h.nd.1⟩
 ·dsimp[lps,Gm,Jc];exact⟨n2,h.nd.2⟩
inductive C1O(vs:List V)(H:Hp)(Q:VK)(E:XK):Prop
 |mk(r dr lf:Nh)(fr:List (Nh×Nh))(R:Rd)(wv:V)(t u:List Nat)(_:vs=[.ref r,.str (S t)])(_:V1 H r dr lf fr R wv)(_:R.w=.no)(_:RV R u)(_:u.length<=600)(_:(tk R t=none->∀H',Kp (rX r lf fr) H H'->Q (.bl false) H'))(_: ∀R',tk R t=some R'->RdQ H r dr lf fr R' λH'=>Q (.bl true) H')
inductive B9m(vs:List V)(H:Hp)(Q:VK)(E:XK):Prop
 |mk(r dr lf:Nh)(fr:List (Nh×Nh))(R:Rd)(wv:V)(t u:List Nat)(_:vs=[.ref r,.str (S t)])(_:V1 H r dr lf fr R wv)(_:RV R u)(_:u.length<=600)(_:(∀c∈t,c<128))(_:t.length<=600)(_:(tk R t=none->∀H',Kp (rX r lf fr) H H'->Q (.bl false) H'))(_: ∀R',tk R t=some R'->RdQ H r dr lf fr R' λH'=>Q (.bl true) H')
def B8f(t:List Nat):(S t=(",":Str))↔t=[44]:=by rw[show(",":Str)=S [44] by rw[<-L6];rfl];exact A5K
def B1W(t:List Nat):(S t=(")":Str))↔t=[41]:=by rw[B23];exact A5K
def C0s(t:List Nat):(S t=("(":Str))↔t=[40]:=by rw[B24];exact A5K
def B3M{h:Hd}{i:Nat}{x:Srt}(e:h.want[i]?=some x):atI (Str.ofString (A2v h)).cps.toList (i:Int)=some (B9f x):=by rw[M4,B0N,Ha,e];rfl
def B0M(h:Hd):(Str.ofString (A2v h)).length<=100000:=by rw[A0a];cases h<;>decide
def B2g:T.A42.C T base 4 (C1O):=by
 refine T.A42.g T (Y0 _ _) [none,none] (by nomatch A65 T,O5 T) ?_;obtain⟨r,dr,lf,fr,⟨F,w0,wh⟩,wv,t,u,rfl,h,hw,v,hu,q1,q2⟩;simp only at hw;subst hw;have at_:=h.at_
 cases F with
 |nil=>cases at_;simp[Y0,↓Ob h.cell,↓Ls h.frs];exact q1 rfl _ (Kp.refl _ _)
 |cons f F=>
  have fok:FOk f/\f.ps≠[]:=by cases v with|part a b c d=>exact⟨a,b⟩
  have fit:=v.fit f (by simp);have few:=v.few
  cases at_ with
  | @cons fa dx lp as _ fr _ g1 g2 g3 g4=>
   have hlen:=g3.1;have hz: ¬((fr.length:Int)+1=0):=by lia
   have hwl:f.h.want.length<=sizeLine:=by rw[<-A0a];exact big (B0M f.h)
   by_cases hlt:f.ps.length<f.h.want.length
   ·obtain⟨x,hx⟩: ∃x,f.h.want[f.ps.length]?=some x:=⟨_,List.getElem?_eq_getElem hlt⟩
    have hlt':((f.ps.length:Nat):Int)<(f.h.want.length:Int):=by lia
    have hw:=B3M hx;simp[Y0,↓Ob h.cell,↓Ls h.frs,↓Ob g1,↓Ls g2,A0a,hwl,hz,hlen,hlt,↓gX hw,B8f,A5O];have hR:=h.want (.s x);have kp:Kp (rX r lf ((fa,lp)::fr)) H (upd H r (.ins ad.D0 dr (M8 (.ref lf) (.str (.ofString (wT (.s x)))) wv))):=(Kp.refl _ _).upd (.inl (by simp[rX]));by_cases ht:t=[44]
    ·simp[ht];exact q2 ⟨f::F,.s x,wh⟩ (by simp[tk,hx,ht]) _ _ _ hR kp λp hp=>.inl hp
    ·simp[ht];exact q1 (by simp[tk,hx,ht]) _ kp
   ·have hx:f.h.want[f.ps.length]?=none:=He (by lia);have hlt': ¬((f.ps.length:Nat):Int)<(f.h.want.length:Int):=by lia
    by_cases ht:t=[41]
    ·have hsrt:f.ps.map Nd.srt=f.h.want:=by rw[fok.1.1,Jm (by lia)]
     obtain⟨n,hn⟩:=C0c hsrt;obtain⟨m1,m2,m3,m4,m5,m6⟩:=B4b hn;have hp:=h.pop;have hr:=h.fr_r (fa,lp) (by simp);simp[Y0,↓Ob h.cell,↓Ls h.frs,↓Ob g1,↓Ls g2,A0a,hwl,hz,hlen,hlt,B1W,ht,↓N0 hr.2.2.1,↓Lsn hr.2.2.2];intro l hl;have e1:O8 H (upd H lf (.lst (fr.map λp=>V.ref p.1).reverse)):=(O8.refl H).updL h.frs;have s1:=A5.new (o:=.tup (as.map V.ref)) hl;refine⟨n,l,as,by rw[m1];rfl,m3,A3,by rw[m2];exact(g3.ext e1).mono s1,λm hm=>?_,λH3 r2 s3 pr=>?_⟩
     ·rw[m2]at hm;have:=fit m hm;lia
     refine⟨r,dr,lf,r2,fr,⟨F,.no,wh⟩,wv,n,rfl,(hp.mono s1).mono s3,pr,λf' hf'=>few f' (by simp[hf']),λH' fr' wv' hR kp new=>?_⟩;have kp1:Kp (rX r lf ((fa,lp)::fr)) H H3:=((Kp.refl _ H).upd (.inl (by simp[rX]))).trans (.of (s1.trans s3));refine q2 _ (by simp[tk,hx,ht,hn]) H' fr' wv' hR (kp1.trans (kp.mono λx hx'=>?_)) λx hx'=>?_
     ·dsimp[rX,lps,Gm,Gk]at hx' ⊢;rcases hx' with rfl|rfl|hx'<;>simp_all
     ·rcases new x hx' with z|z
      ·left;dsimp[lps,Gm,Gk];exact .inr z
      ·right;have:=(s1.trans s3).free z;rw[F2]at this;exact this.2
    ·simp[Y0,↓Ob h.cell,↓Ls h.frs,↓Ob g1,↓Ls g2,A0a,hwl,hz,hlen,hlt,B1W,ht];exact q1 (by simp[tk,hx,ht]) _ (Kp.refl _ _)
def B0x:T.A3I.C T base 5 (B9m):=by
 refine T.A3I.g T (Z6 _ _ _ _ _) [none,none] (by nomatch A61 T,A77 T,A65 T,B2g T,C0A T) ?_;obtain⟨r,dr,lf,fr,⟨F,w0,wh⟩,wv,t,u,rfl,h,v,hu,h128,h600,q1,q2⟩
 cases w0 with
 |no=>simp[Z6,↓Ob h.cell,wT];exact⟨r,dr,lf,fr,⟨F,.no,wh⟩,wv,t,u,rfl,h,rfl,v,hu,q1,q2⟩
 |op=>
  cases F with
  |nil=>cases v
  |cons f F=>
   have hps:f.ps=[]:=by cases v;rfl
   have at_:=h.at_
   cases at_ with
   | @cons fa dx lp as _ fr _ g1 g2 g3 g4=>
    obtain⟨x,hx⟩: ∃x,f.h.want[0]?=some x:=by cases f.h<;>exact⟨_,rfl⟩
    have hw:=B3M hx;have hw:(Str.ofString (A2v f.h)).cps[0]?=some (B9f x):=by simpa using hw
    have hR:=h.want (.s x);have kp:Kp (rX r lf ((fa,lp)::fr)) H (upd H r (.ins ad.D0 dr (M8 (.ref lf) (.str (.ofString (wT (.s x)))) wv))):=(Kp.refl _ _).upd (.inl (by simp[rX]));have hwl:f.h.want.length<=sizeLine:=by rw[<-A0a];exact big (B0M f.h)
    simp[Z6,↓Ob h.cell,wT,↓Ls h.frs,↓Ob g1,A0a,hwl,↓gX hw,C0s,A5O];by_cases ht:t=[40]
    ·simp[ht,↓gX hw,A5O];exact q2 ⟨f::F,.s x,wh⟩ (by simp[tk,hx,ht]) _ _ _ hR kp λp hp=>.inl hp
    ·simp[ht,↓gX hw,A5O];exact q1 (by simp[tk,ht]) _ kp
 |s x=>
  have nx:(A0z x=="")=false/\(A0z x=="(")=false:=by cases x<;>exact⟨rfl,rfl⟩
  simp[Z6,↓Ob h.cell,wT,nx.1,nx.2];refine⟨x,t,rfl,?_⟩
  cases hh:A7R x t with
  |some g=>
   have e2:=(A2m hh).2;have hmany:fr.length<=601:=by have h1:=v.many;have h2:=h.at_.len;simp only at h1 h2;lia
   have hne: ¬A2v g="":=by cases g<;>decide
   simp[A2w,hne,↓Ob h.cell,↓iL h.frs];intro fa dx hfa hdx _;refine⟨fa,dx,_,_,rfl,A3,λH1 lp k1 hlp g1 g2=>⟨rfl,?_⟩⟩;have s1:A5 H H1:=A0g hfa hdx k1;have hlp':H lp=none:=by rw[F2]at hlp;have:=hlp.2;rw[F2]at this;exact this.2
   have h1:=h.mono s1;have n1:lf≠lp:=A2 h.frs hlp';have n2:lp∉lps fr:=λhm=>by obtain⟨p,hp,e⟩:=Ip.mp hm;obtain⟨_,xs,hxs⟩:=h.at_.kind p hp;rw[e,hlp']at hxs;cases hxs
   rw[<-e2,L6]at g1;have h2:=h1.push g1 g2 n1 n2;have h3:=h2.want .op;have n3:r≠lf:=h.r_lf;simp[↓Ls h1.frs,↓N0 n3,↓Ob h1.cell];refine⟨A8c (by lia),q2 _ (by simp[tk,hh]) _ _ _ h3 (((Kp.of s1).upd (.inl (by simp[rX]))).upd (.inl (by simp[rX]))) λp hp=>?_⟩;dsimp[lps,Gm,Gk]at hp;rcases hp with rfl|hp
   ·exact .inr hlp'
   ·exact .inl hp
  |none=>
   simp[A2w,↓Ob h.cell,wT];refine⟨x,t,rfl,h128,by lia,λhl=>?_,λn hl H1 a s1 pa=>?_⟩
   ·simp;exact q1 (by simp[tk,hh,hl]) _ (Kp.refl _ _)
   ·simp;refine⟨r,dr,lf,a,fr,⟨F,.s x,wh⟩,wv,n,rfl,h.mono s1,pa,v.few,λH' fr' wv' hR kp new=>?_⟩;exact q2 _ (by simp[tk,hh,hl]) H' fr' wv' hR ((Kp.of s1).trans kp) λp hp=>(new p hp).imp_right s1.free
inductive B9l(vs:List V)(H:Hp)(Q:VK)(E:XK):Prop
 |mk(a:Nh)(zs:List Int)(_:vs=[.ref a])(_:H a=some (.lst (zs.map V.int)))(_:(∀z∈zs,0<=z))(_:(Lw (zs.map Int.toNat)=none->∀H',A5 H H'->Q .non H'))(_: ∀c,Lw (zs.map Int.toNat)=some c->∀H' r,A5 H H'->B0 H' r (.con c)->Q (.ref r) H')
inductive C1K(vs:List V)(H:Hp)(Q:VK)(E:XK):Prop
 |mk(d dx b u l:Nh)(D:PD)(zs:List Int)(_:vs=[.ref d,.ref l])(_:G6 H d dx b u D)(_:OkD D)(_:H l=some (.lst (zs.map V.int)))(_:(∀z∈zs,0<=z))(_:A0Y H d dx b u D (.read (zs.map Int.toNat)) Q)
def B5p{c:Nat}(h:K3 c=true):c<128:=by simp[K3,A0h]at h;lia
def B9U{l:List Nat}{t:List Nat}(h:t∈Y3 [] l):(∀c∈t,c∈l)/\t.length<=l.length:=by
 have e:=A0R l [];simp at e;constructor
 ·intro c hc;rw[<-e];exact List.mem_flatten.mpr ⟨t,h,hc⟩
 ·rw[<-e];obtain⟨a,b,e2⟩:=List.append_of_mem h;rw[e2];simp;lia
def A60:T.A1S.C T base 6 (B9l):=by
 refine T.A1S.g T (A0p _ _ _ _) [none,none,none] (by nomatch B2a T,B8y T,B2k T,B0x T) ?_;obtain⟨a,zs,rfl,ha,h0,q1,q2⟩;by_cases h6:600<zs.length
 ·have:(600:Int)<(zs.length:Int):=by lia
  simp[A0p,↓Ls ha,this];exact q1 (B44 (by simpa using h6)) _ (A5.refl _)
 ·have h6': ¬(600:Int)<(zs.length:Int):=by lia
  simp[A0p,↓Ls ha,h6'];refine⟨a,zs,rfl,ha,by lia,h0,λH1 s1=>?_⟩
  cases hs:(zs.map Int.toNat).all K3 with
  |false=>simp;exact q1 (A7N hs) _ s1
  |true=>
   generalize hl:zs.map Int.toNat=l at hs q1 q2 ⊢;have hlen:l.length<=600:=by rw[<-hl];simp;lia
   have h128: ∀c∈l,c<128:=λc hc=>B5p (Iw.mp hs c hc);simp;intro r dr hr hdr _;refine⟨r,dr,rfl,A3,λH2 lf k2 hlf hR=>⟨rfl,?_⟩⟩;have s2:A5 H1 H2:=A0g hr hdr k2;have hlf':H1 lf=none:=by rw[F2]at hlf;have:=hlf.2;rw[F2]at this;exact this.2
   simp;refine⟨l,rfl,h128,hlen,λH3 p s3 hp hp3=>?_⟩;have n1:p≠r:=(A2 hR.cell hp).symm;have n2:p≠lf:=(A2 hR.frs hp).symm;simp[↓Ls hp3];have z1:=s1.trans s2;refine Y9 (F3 λH' (g:H' p=some (.lst (pV (Y3 [] l))))=>g) (λi J H'=>∃(fr:List (Nh×Nh))(R:Rd)(wv:V)(v:Option V),J=[some (.ref a),some (.str (S l)),some (.ref r),v]/\V1 H' r dr lf fr R wv/\W1 rd0 ((Y3 [] l).take i)=some R/\A5 H H'/\(∀x∈rX r lf fr,H x=none)/\p∉lps fr/\H' p=some (.lst (pV (Y3 [] l)))) ?_ (λi J H' h=>by obtain⟨fr,R,wv,v,_,_,_,_,_,_,h⟩:=h;exact h) ?_ ?_
   ·exact⟨[],rd0,.non,_,rfl,hR.mono s3,rfl,z1.trans s3,by simp[rX,lps];exact⟨s1.free hr,s1.free hlf'⟩,by simp[lps],hp3⟩
   ·rintro i x J H' hx ⟨fr,R,wv,v,rfl,hR',hrun,sH,hno,np,hp'⟩ N hN;have hx':(pV (Y3 [] l))[i]?=some x:=hx;rw[pV,Ha]at hx'
    cases ht:(Y3 [] l)[i]? with
    |none=>rw[ht]at hx';cases hx'
    |some t=>
     rw[ht]at hx';dsimp[Hg,Gy]at hx';subst hx';obtain⟨t1,t2⟩:=B9U (Gw ht);have hfl:((Y3 [] l).take i).flatten.length<=600:=by
      have e:=A0R l [];simp at e;have e2:=Hm List.length (Hm List.flatten (Jp i (Y3 [] l)));rw[List.flatten_append,Gg,e]at e2
      lia
     have v0:RV rd0 []:=.s rfl rfl;have rv:=B2Z _ v0 hrun;dsimp[Iq]at rv;have happ:Y3 [] l=(Y3 [] l).take i++t::(Y3 [] l).drop (i+1):=by
      conv=>lhs;rw[<-Jp i (Y3 [] l)]
      congr 1;have hi:=(Hl.mp ht).1;rw[Jz hi];congr 1;simpa[hi] using ht
     simp;refine⟨r,dr,lf,fr,R,wv,t,_,rfl,hR',rv,hfl,λc hc=>h128 c (t1 c hc),by lia,λhn H'' kp=>?_,λR' hR2 H'' fr' wv' hR'' kp new=>?_⟩
     ·have sH':A5 H H'':=λb o e=>kp b o (sH b o e) λhb=>by rw[hno b hb]at e;cases e
      simp;refine q1 (A4i (B6S ?_)) _ sH';rw[happ,A6b,hrun];show(tk R t).bind _=none;rw[hn];rfl
     ·have sH':A5 H H'':=λb o e=>kp b o (sH b o e) λhb=>by rw[hno b hb]at e;cases e
      simp;refine hN _ _ ⟨fr',R',wv',_,rfl,hR'',?_,sH',?_,?_,?_⟩
      ·rw[A1z ht,A6b,hrun];show(tk R t).bind _=_;rw[hR2];rfl
      ·intro x hx;dsimp[rX,Gk]at hx;rcases hx with rfl|rfl|hx
       ·exact hno _ (by simp[rX])
       ·exact hno _ (by simp[rX])
       ·rcases new x hx with z|z
        ·exact hno x (by simp[rX,z])
        ·exact sH.free z
      ·intro hm;rcases new p hm with z|z
       ·exact np z
       ·rw[hp']at z;cases z
      ·exact kp p _ hp' (by dsimp[rX,Gk,not_or];exact⟨n1,n2,np⟩)
   ·rintro J H' ⟨fr,R,wv,v,rfl,hR',hrun,sH,hno,np,hp'⟩;rw[pV,Gz,Ho]at hrun;simp[↓Ob hR'.cell];rcases C12 hrun with⟨e1,e2⟩|⟨c,e1,e2,e3⟩
    ·rcases hR'.who with⟨_,rfl⟩|⟨n,x,e,_⟩
     ·exact q1 (A4i e2) _ sH
     ·rw[e1]at e;cases e
    ·rcases hR'.who with⟨e,_⟩|⟨n,x,e,rfl,pa⟩
     ·rw[e1]at e;cases e
     ·rw[e1]at e;cases e;exact q2 c ((A3t l c).mpr ⟨hlen,e2,e3⟩) _ _ sH pa
def B2j:T.A46.C T base 7 (C1K):=by
 refine T.A46.g T (A5l _ _) [none] (by nomatch A60 T,A6Z T) ?_;obtain⟨d,dx,b,u,l,D,zs,rfl,hd,ok,hl,hz,q⟩;have q:=q.to;simp[A5l];refine⟨l,zs,rfl,hl,hz,λhn H1 s1=>?_,λc hc H1 r s1 pr=>?_⟩
 ·simp;exact q.num' hd ok s1 (by simp[Kt,hn])
 ·simp;have hw:=(A3t _ c).mp hc;have e:Kt (B5 D) (.read (zs.map Int.toNat))=Mi (B5 D) c:=by simp[Kt,hc]
  rw[e]at q;exact⟨d,dx,b,u,r,D,c,rfl,hd.mono s1,ok,pr,⟨hw.2.1,by have h1:=(A1N c hw.2.1).2;have h2:=hw.1;rw[hw.2.2]at h2;lia⟩,q.mono s1⟩
end PP
namespace PP
open Kcp0Neutral
def B6g: ∀c:List (List Int),PyKcp0.whole c=c
 |[]=>rfl
 |[]::_=>rfl
 |(.negSucc _::_)::_=>rfl
 |(.ofNat n::w)::t=>by
  iterate 25 (rcases n with _|n;· repeat' (first|rfl|(rcases t with _|⟨r,_|⟨s,t⟩⟩<;>rfl)|rcases w with _|⟨a,w⟩))
  rfl
def B8t(l:List Int):PyKcp0.calls l=PyFlat.calls PyKcp0.shape l.length l:=by
 unfold PyKcp0.calls
 cases PyFlat.calls PyKcp0.shape l.length l with
 |none=>rfl
 |some cs=>
  have:cs.map PyKcp0.whole=cs:=by rw[show PyKcp0.whole=id from funext B6g,List.map_id]
  simp[this]
noncomputable def wh:List Int:=[1,0,1,1,1,2,4,2,3,1,0,1,2,3,2,0,0,0,1,1,1,3,2,0,0]
def rws(j:Nat):Nat:=if j=1\/j=7 then 1 else 0
def B2X{p:Int}{n k:Nat}(h:PyKcp0.shape p=some (n,k)): ∃j:Nat,j<25/\p=(j:Int)/\wh[j]?=some (n:Int)/\rws j=k:=by
 by_cases h0:0<=p/\p<25
 ·obtain⟨j,rfl⟩:=Int.eq_ofNat_of_zero_le h0.1;have hj:j<25:=by lia
  have key: ∀j:Fin 25,PyKcp0.shape (j.val:Int)=some ((wh[j.val]?.getD 0).toNat,rws j.val)/\wh[j.val]?=some (((wh[j.val]?.getD 0).toNat:Nat):Int):=by decide+kernel
  obtain⟨k1,k2⟩:=key ⟨j,hj⟩;simp only at k1 k2;rw[k1]at h;dsimp[Gy,Hx]at h;exact⟨j,hj,rfl,by rw[<-h.1];exact k2,h.2⟩
 ·exfalso;unfold PyKcp0.shape at h
  repeat rw[Gd (by lia)]at h
  cases h
def B6V{l x s:List Int}(h:PyFlat.row l=some (x,s)): ∃(m:Nat)(q:List Int),l=(m:Int)::q/\m<=q.length/\x=q.take m/\s=q.drop m:=by
 cases l with
 |nil=>cases h
 |cons n r=>
  dsimp[PyFlat.row]at h;split at h
  ·rename_i hc;dsimp[Gy,Hx]at h;exact⟨n.toNat,r,by rw[Int.toNat_of_nonneg hc.1],hc.2,h.1.symm,h.2.symm⟩
  ·cases h
def B5H{p:Int}{r:List Int}{c:List (List Int)}{t:List Int}(h:PyFlat.call PyKcp0.shape (p::r)=some (c,t)):
  ∃(j n:Nat),j<25/\p=(j:Int)/\wh[j]?=some (n:Int)/\n<=r.length/\
   ((rws j=0/\c=[(j:Int)::r.take n]/\t=r.drop n)\/(rws j=1/\∃(m:Nat)(q:List Int),r.drop n=(m:Int)::q/\m<=q.length/\c=[(j:Int)::r.take n,q.take m]/\t=q.drop m)):=by
 dsimp[PyFlat.call]at h
 cases hs:PyKcp0.shape p with
 |none=>rw[hs]at h;cases h
 |some nk=>
  obtain⟨n,k⟩:=nk;rw[hs]at h;simp only at h;obtain⟨j,hj,rfl,hn,hk⟩:=B2X hs;split at h
  ·cases h
  ·rename_i hl;refine⟨j,n,hj,rfl,hn,by lia,?_⟩;have hk01:rws j=0\/rws j=1:=by unfold rws;split<;>simp
   rcases hk01 with e|e
   ·left;rw[hk]at e;subst e;dsimp[PyFlat.rows,Gy,Hx]at h;exact⟨hk,h.1.symm,h.2.symm⟩
   ·right;rw[hk]at e;subst e;refine⟨hk,?_⟩
    cases hr:PyFlat.row (r.drop n) with
    |none=>simp[PyFlat.rows,hr]at h
    |some xs=>obtain⟨x,s⟩:=xs;simp[PyFlat.rows,hr]at h;obtain⟨m,q,e1,e2,e3,e4⟩:=B6V hr;exact⟨m,q,e1,e2,by rw[<-h.1,e3],by rw[<-h.2,e4]⟩
def B3s{f:Nat}{p:Int}{r:List Int}{cs:List (List (List Int))}(h:PyFlat.calls PyKcp0.shape f (p::r)=some cs):
  ∃(g:Nat)(c:List (List Int))(t:List Int)(ds:List (List (List Int))),PyFlat.call PyKcp0.shape (p::r)=some (c,t)/\PyFlat.calls PyKcp0.shape g t=some ds/\cs=c::ds:=by
 cases f with
 |zero=>cases h
 |succ f=>
  unfold PyFlat.calls at h
  cases hc:PyFlat.call PyKcp0.shape (p::r) with
  |none=>rw[hc]at h;cases h
  |some ct=>
   obtain⟨c,t⟩:=ct;rw[hc]at h;simp only at h
   cases hd:PyFlat.calls PyKcp0.shape f t with
   |none=>rw[hd]at h;cases h
   |some ds=>rw[hd]at h;dsimp[Gy]at h;exact⟨f,c,t,ds,rfl,hd,h.symm⟩
def B5G{f:Nat}{cs:List (List (List Int))}(h:PyFlat.calls PyKcp0.shape f []=some cs):cs=[]:=by cases f<;>(simp[PyFlat.calls]at h;exact h)
def due(s:Kcp0.Abs)(cs:List (List (List Int))):List Int:=PyFlat.told (PyFlat.played Kcp0Neutral.step s cs)
def C0w(s:Kcp0.Abs):due s []=[]:=rfl
def B1X(s:Kcp0.Abs)(c:List (List Int))(cs:List (List (List Int))):
  due s (c::cs)=((tell (Kt s (call c)).2).length:Int)::tell (Kt s (call c)).2++due (Kt s (call c)).1 cs:=rfl
theorem B4B: ∀(cs:List (List (List Int)))(s:Kcp0.Abs),(due s cs).length=cs.length+((answersFrom s cs).map List.length).sum
 |[],_=>rfl
 |c::cs,s=>by
  rw[B1X];have:=B4B cs (Kt s (call c)).1;dsimp[Gg,Ge,this];show _=_+((tell (Kt s (call c)).2).length+((answersFrom (Kt s (call c)).1 cs).map List.length).sum)
  lia
theorem B1N: ∀(l:List Nat)(a:Nat),l.foldl (λ(x y:Nat)=>x+y) a=a+l.sum
 |[],a=>by simp
 |x::l,a=>by rw[List.foldl_cons,B1N l];simp;lia
structure C5C(l:List Int)(cs:List (List (List Int))):Prop where
 are:PyFlat.calls PyKcp0.shape l.length l=some cs
 each: ∀c∈cs,asked1 c=true
 beg:begun cs=true
 few:(due Kcp0.first cs).length<=1005000
 ans:PyKcp0.answers l=due Kcp0.first cs
def B8H{l:List Int}(h:PyKcp0.answers_asked l=true): ∃cs,C5C l cs:=by
 unfold PyKcp0.answers_asked at h;have e:=B8t l
 cases hc:PyKcp0.calls l with
 |none=>rw[hc]at h;cases h
 |some cs=>
  rw[hc]at h;dsimp[asked,Ga]at h;obtain⟨h1,⟨h2,h3,h4⟩,h5⟩:=h;refine⟨cs,by rw[<-e,hc],by simpa using h3,h4,?_,?_⟩
  ·rw[B4B];have h5':((answersFrom Kcp0.first cs).map List.length).foldl (λ(x y:Nat)=>x+y) 0<1000000:=by have:=h5;unfold few_ at this;exact of_decide_eq_true this
   rw[B1N]at h5';have:cs.length<=5000:=of_decide_eq_true h1
   lia
  ·unfold PyKcp0.answers;rw[hc];rfl
def Holds(a s:Kcp0.Abs)(cs:List (List (List Int))):Prop:=a=s\/(a=⟨Na 0,[],[]⟩/\s=Kcp0.first/\begun cs=true)
def B3E{c:List (List Int)}{cs:List (List (List Int))}(h:begun (c::cs)=true):good c=true\/(good c=false/\Kcp0Neutral.n c 0=0/\begun cs=true):=by
 unfold begun at h
 cases hg:good c with
 |true=>exact .inl rfl
 |false=>right;simp[List.takeWhile_cons,hg]at h;refine⟨rfl,h.1,?_⟩;unfold begun;simp;exact h.2
def A84{c:List (List Int)}(h:Kcp0Neutral.n c 0=0):call c=.begin_ (Kcp0Neutral.n c 1):=by unfold call;rw[h];rfl
def B3g{a s:Kcp0.Abs}{c:List (List Int)}{cs:List (List (List Int))}(h:Holds a s (c::cs)):(Kt a (call c)).2=(Kt s (call c)).2/\Holds (Kt a (call c)).1 (Kt s (call c)).1 cs:=by
 rcases h with rfl|⟨rfl,rfl,hb⟩
 ·exact⟨rfl,.inl rfl⟩
 ·rcases B3E hb with hg|⟨hg,h0,hb⟩
  ·simp[good]at hg;rw[A84 hg.1.1];have: ¬(Kcp0Neutral.n c 1<2\/Kcp0.PARTIES<Kcp0Neutral.n c 1):=by simp[Kcp0.PARTIES];lia
   dsimp[Kt,Gd this];exact⟨trivial,.inl rfl⟩
  ·rw[A84 h0];have:(Kcp0Neutral.n c 1<2\/Kcp0.PARTIES<Kcp0Neutral.n c 1):=by simp[good,h0]at hg;simp[Kcp0.PARTIES];lia
   dsimp[Kt,Gf this];exact⟨trivial,.inr ⟨rfl,rfl,hb⟩⟩
end PP
namespace PP
open PySem PySem.Spec PyProof.Rows L2 TL
def TlJ(H:Hp)(xs:List V):Nat->Kcp0.Call->Prop
 |0,c=>∃k:Nat,xs=[.int k]/\c=.begin_ k
 |1,c=>∃(l:Nh)(zs:List Int),xs=[.ref l]/\H l=some (.lst (zs.map V.int))/\(∀z∈zs,0<=z)/\c=.read (zs.map Int.toNat)
 |2,c=>∃k:Nat,xs=[.int k]/\c=.write k
 |3,c=>∃k:Nat,xs=[.int k]/\c=.about k
 |4,c=>∃k:Nat,xs=[.int k]/\c=.tidy k
 |5,c=>∃k j:Nat,xs=[.int k,.int j]/\c=.same k j
 |6,c=>∃(kind a b:Nat)(x:Int),xs=[.int kind,.int a,.int b,.int x]/\c=.make kind a b x
 |7,c=>∃(l:Nh)(k t:Nat)(ws:List Int),xs=[.int k,.int t,.ref l]/\H l=some (.lst (ws.map V.int))/\ws.length=8/\c=.trial k t ws
 |8,c=>∃h o k:Nat,xs=[.int h,.int o,.int k]/\c=.sign h o k
 |9,c=>∃k:Nat,xs=[.int k]/\c=.deal k
 |10,c=>c=.items
 |11,c=>∃k:Nat,xs=[.int k]/\c=.item k
 |12,c=>∃(o:Nat)(v:Int),xs=[.int o,.int v]/\c=.see o v
 |13,c=>∃h o k:Nat,xs=[.int h,.int o,.int k]/\c=.choose h o k
 |14,c=>∃h o:Nat,xs=[.int h,.int o]/\c=.take h o
 |15,c=>c=.close
 |16,c=>c=.day
 |17,c=>c=.pays
 |18,c=>∃k:Nat,xs=[.int k]/\c=.pay k
 |19,c=>∃k:Nat,xs=[.int k]/\c=.balance k
 |20,c=>∃k:Nat,xs=[.int k]/\c=.net k
 |21,c=>∃h o k:Nat,xs=[.int h,.int o,.int k]/\c=.assign h o k
 |22,c=>∃h o:Nat,xs=[.int h,.int o]/\c=.cancel h o
 |23,c=>c=.undo
 |24,c=>c=.redo
 |_,_=>False
inductive W0(j:Nat)(vs:List V)(H:Hp)(Q:VK)(E:XK):Prop
 |mk(d dx b u t:Nh)(D:PD)(xs:List V)(c:Kcp0.Call)(_:vs=[.ref d,.ref t])(_:G6 H d dx b u D)(_:OkD D)(_:H t=some (.lst xs))(_:TlJ H xs j c)(_:A0Y H d dx b u D c Q)
variable{P:Nk}{w:World}{K:Fg}{mg:MG}{base:Heap}(T:Txt P w K mg)
def C7y:T.A6L.C T base 5 (W0 0):=by refine T.A6L.g T (A7k _) [] (by nomatch B0B T) ?_;obtain⟨d,dx,b,u,t,D,xs,c,rfl,hd,ok,ht,⟨k,rfl,rfl⟩,q⟩;simp[A7k,↓Ls ht];exact⟨d,dx,b,u,D,k,rfl,hd,ok,q⟩
def C7x:T.A8S.C T base 8 (W0 1):=by refine T.A8S.g T (A9i _) [] (by nomatch B2j T) ?_;obtain⟨d,dx,b,u,t,D,xs,c,rfl,hd,ok,ht,⟨l,zs,rfl,hl,hz,rfl⟩,q⟩;simp[A9i,↓Ls ht];exact⟨d,dx,b,u,l,D,zs,rfl,hd,ok,hl,hz,q⟩
def C7w:T.A6H.C T base 3 (W0 2):=by refine T.A6H.g T (A7g _) [] (by nomatch B2b T) ?_;obtain⟨d,dx,b,u,t,D,xs,c,rfl,hd,ok,ht,⟨k,rfl,rfl⟩,q⟩;simp[A7g,↓Ls ht];exact⟨d,dx,b,u,D,k,rfl,hd,ok,q⟩
def C7v:T.A6M.C T base 3 (W0 3):=by refine T.A6M.g T (A7l _) [] (by nomatch B0v T) ?_;obtain⟨d,dx,b,u,t,D,xs,c,rfl,hd,ok,ht,⟨k,rfl,rfl⟩,q⟩;simp[A7l,↓Ls ht];exact⟨d,dx,b,u,D,k,rfl,hd,ok,q⟩
def C7u:T.A8N.C T base 8 (W0 4):=by refine T.A8N.g T (A9d _) [] (by nomatch A5I T) ?_;obtain⟨d,dx,b,u,t,D,xs,c,rfl,hd,ok,ht,⟨k,rfl,rfl⟩,q⟩;simp[A9d,↓Ls ht];exact⟨d,dx,b,u,D,k,rfl,hd,ok,q⟩
def C7t:T.A8Q.C T base 3 (W0 5):=by refine T.A8Q.g T (A9g _) [] (by nomatch B2c T) ?_;obtain⟨d,dx,b,u,t,D,xs,c,rfl,hd,ok,ht,⟨k,j,rfl,rfl⟩,q⟩;simp[A9g,↓Ls ht];exact⟨d,dx,b,u,D,k,j,rfl,hd,ok,q⟩
def C7s:T.A8U.C T base 6 (W0 6):=by refine T.A8U.g T (A9k _) [] (by nomatch A78 T) ?_;obtain⟨d,dx,b,u,t,D,xs,c,rfl,hd,ok,ht,⟨kind,a,j,x,rfl,rfl⟩,q⟩;simp[A9k,↓Ls ht];exact⟨d,dx,b,u,D,kind,a,j,x,rfl,hd,ok,q⟩
def C7r:T.A6I.C T base 6 (W0 7):=by refine T.A6I.g T (A7h _) [] (by nomatch B5J T) ?_;obtain⟨d,dx,b,u,t,D,xs,c,rfl,hd,ok,ht,⟨l,k,y,ws,rfl,hl,h8,rfl⟩,q⟩;simp[A7h,↓Ls ht];exact⟨d,dx,b,u,l,D,k,y,ws,rfl,hd,ok,hl,h8,q⟩
def C4Y:T.B1R.C T base 9 (W0 12):=by refine T.B1R.g T (B2s _) [] (by nomatch B2i T) ?_;obtain⟨d,dx,b,u,t,D,xs,c,rfl,hd,ok,ht,⟨o,v,rfl,rfl⟩,q⟩;simp[B2s,↓Ls ht];exact⟨d,dx,b,u,D,o,v,rfl,hd,ok,q⟩
def C7q:T.A8P.C T base 8 (W0 8):=by refine T.A8P.g T (A9f _) [] (by nomatch B2h T) ?_;obtain⟨d,dx,b,u,t,D,xs,c,rfl,hd,ok,ht,⟨k,j,i,rfl,rfl⟩,q⟩;simp[A9f,↓Ls ht];exact⟨d,dx,b,u,D,k,j,i,rfl,hd,ok,q⟩
def C7p:T.A8W.C T base 3 (W0 9):=by refine T.A8W.g T (A9m _) [] (by nomatch B2f T) ?_;obtain⟨d,dx,b,u,t,D,xs,c,rfl,hd,ok,ht,⟨k,rfl,rfl⟩,q⟩;simp[A9m,↓Ls ht];exact⟨d,dx,b,u,D,k,rfl,hd,ok,q⟩
def C40:T.A6J.C T base 2 (W0 10):=by refine T.A6J.g T (A7i _) [] (by nomatch B0u T) ?_;obtain⟨d,dx,b,u,t,D,xs,c,rfl,hd,ok,ht,rfl,q⟩;simp[A7i,↓Ls ht];exact⟨d,dx,b,u,D,rfl,hd,ok,q⟩
def C4Z:T.A8V.C T base 3 (W0 11):=by refine T.A8V.g T (A9l _) [] (by nomatch B2e T) ?_;obtain⟨d,dx,b,u,t,D,xs,c,rfl,hd,ok,ht,⟨k,rfl,rfl⟩,q⟩;simp[A9l,↓Ls ht];exact⟨d,dx,b,u,D,k,rfl,hd,ok,q⟩
def C4X:T.A48.C T base 9 (W0 13):=by refine T.A48.g T (A5n _) [] (by nomatch B0A T) ?_;obtain⟨d,dx,b,u,t,D,xs,c,rfl,hd,ok,ht,⟨k,j,i,rfl,rfl⟩,q⟩;simp[A5n,↓Ls ht];exact⟨d,dx,b,u,D,k,j,i,rfl,hd,ok,q⟩
def C4W:T.A8O.C T base 9 (W0 14):=by refine T.A8O.g T (A9e _) [] (by nomatch B3y T) ?_;obtain⟨d,dx,b,u,t,D,xs,c,rfl,hd,ok,ht,⟨k,j,rfl,rfl⟩,q⟩;simp[A9e,↓Ls ht];exact⟨d,dx,b,u,D,k,j,rfl,hd,ok,q⟩
def C4V:T.A6K.C T base 10 (W0 15):=by refine T.A6K.g T (A7j _) [] (by nomatch B2n T) ?_;obtain⟨d,dx,b,u,t,D,xs,c,rfl,hd,ok,ht,rfl,q⟩;simp[A7j,↓Ls ht];exact⟨d,dx,b,u,D,rfl,hd,ok,q⟩
def C4U:T.B1U.C T base 4 (W0 16):=by refine T.B1U.g T (B2v _) [] (by nomatch B3x T) ?_;obtain⟨d,dx,b,u,t,D,xs,c,rfl,hd,ok,ht,rfl,q⟩;simp[B2v,↓Ls ht];exact⟨d,dx,b,u,D,rfl,hd,ok,q⟩
def C4T:T.A8T.C T base 2 (W0 17):=by refine T.A8T.g T (A9j _) [] (by nomatch B2d T) ?_;obtain⟨d,dx,b,u,t,D,xs,c,rfl,hd,ok,ht,rfl,q⟩;simp[A9j,↓Ls ht];exact⟨d,dx,b,u,D,rfl,hd,ok,q⟩
def C4S:T.B1S.C T base 2 (W0 18):=by refine T.B1S.g T (B2t _) [] (by nomatch B3v T) ?_;obtain⟨d,dx,b,u,t,D,xs,c,rfl,hd,ok,ht,⟨k,rfl,rfl⟩,q⟩;simp[B2t,↓Ls ht];exact⟨d,dx,b,u,D,k,rfl,hd,ok,q⟩
def C4R:T.A3L.C T base 3 (W0 19):=by refine T.A3L.g T (A3W _) [] (by nomatch A6Y T) ?_;obtain⟨d,dx,b,u,t,D,xs,c,rfl,hd,ok,ht,⟨k,rfl,rfl⟩,q⟩;simp[A3W,↓Ls ht];exact⟨d,dx,b,u,D,k,rfl,hd,ok,q⟩
def C4Q:T.B1T.C T base 3 (W0 20):=by refine T.B1T.g T (B2u _) [] (by nomatch B3w T) ?_;obtain⟨d,dx,b,u,t,D,xs,c,rfl,hd,ok,ht,⟨k,rfl,rfl⟩,q⟩;simp[B2u,↓Ls ht];exact⟨d,dx,b,u,D,k,rfl,hd,ok,q⟩
def C4P:T.A5a.C T base 6 (W0 21):=by refine T.A5a.g T (A5p _) [] (by nomatch A8b T) ?_;obtain⟨d,dx,b,u,t,D,xs,c,rfl,hd,ok,ht,⟨k,j,i,rfl,rfl⟩,q⟩;simp[A5p,↓Ls ht];exact⟨d,dx,b,u,D,k,j,i,rfl,hd,ok,q⟩
def C4O:T.A49.C T base 5 (W0 22):=by refine T.A49.g T (A5o _) [] (by nomatch A8a T) ?_;obtain⟨d,dx,b,u,t,D,xs,c,rfl,hd,ok,ht,⟨k,j,rfl,rfl⟩,q⟩;simp[A5o,↓Ls ht];exact⟨d,dx,b,u,D,k,j,rfl,hd,ok,q⟩
def C4N:T.A8M.C T base 2 (W0 23):=by refine T.A8M.g T (A9c _) [] (by nomatch A76 T) ?_;obtain⟨d,dx,b,u,t,D,xs,c,rfl,hd,ok,ht,rfl,q⟩;simp[A9c,↓Ls ht];exact⟨d,dx,b,u,D,rfl,hd,ok,q⟩
def C4M:T.A8R.C T base 2 (W0 24):=by refine T.A8R.g T (A9h _) [] (by nomatch A79 T) ?_;obtain⟨d,dx,b,u,t,D,xs,c,rfl,hd,ok,ht,rfl,q⟩;simp[A9h,↓Ls ht];exact⟨d,dx,b,u,D,rfl,hd,ok,q⟩
end PP
namespace L2
open PySem PySem.Spec PyProof.Rows
section
variable{P:Nk}{w:World}{H H':Hp}{h h':Heap}{a an:Nh}{xs:List V}
theorem A2Z(k: ∀b u,H b=some u->(∀ys,u≠ .lst ys)->H' b=some u): ∀{o:HO},N6 P w H h a o->N6 P w H' h a o
 |.lst _,x=>x
 |.tup _,x=>x
 |.dK _,x=>x
 |.dT _,⟨x1,x2,ys,x3,x4⟩=>⟨x1,x2,ys,L2.Paired.mapP x3 λp q ⟨e1,e2,e3⟩=>⟨e1,k _ _ e2 (by intro ys e;cases e),e3⟩,x4⟩
 |.set _ _,x=>x
 |.ins _ _ _,⟨x1,x2⟩=>⟨k _ _ x1 (by intro ys e;cases e),x2⟩
 |.own _,x=>x
 |.xd _,x=>x
 |.rng _ _,x=>x
 |.frz _ u,⟨x1,x2⟩=>⟨x1,A2Z k x2⟩
 |.tbl _,x=>x
 |.met _ _,x=>x
 |.ext _,x=>x
theorem HOk.wo(ok:HOk P w H h)(he:H an=some (.lst xs)):HOk P w (wo [an] H) h:=λa o e=>by obtain⟨e1,e2⟩:=A8y e;refine A2Z (λb u hb hu=>A0J hb ?_) (ok a o e1);intro hm;rw[Gq.mp hm,he]at hb;exact hu xs (Hf hb).symm
inductive A9Y(sp:Sp)(vs:List V)(H:Hp)(Q:VK)(E:XK):Prop
 |mk(an:Nh)(xs:List V)(_:H an=some (.lst xs))(_:sp vs (wo [an] H) (λv H'=>H' an=none->Q v (upd H' an (.lst xs))) E)
def A1t.frame{K:Fg}{mg:MG}{base:Heap}{k:Nat}{f:Nh}{fd:FuncData}{ps:List Str}{sp:Sp}(F:A1t P w K mg base CX0 k f fd ps sp):A1t P w K mg base CX0 k f fd ps (A9Y sp) where
 len:=λvs H Q E ⟨an,xs,he,h⟩=>F.len vs _ _ E h
 run:=λA outer s H args us vs Q E hr env hb hv ⟨an,xs,he,h⟩=>by
  have n0:wo [an] H an=none:=by unfold wo;rw[Gf (by simp)]
  have env':B2B P w K mg base A outer s (wo [an] H):=⟨env.frames,env.mod,λb o e=>⟨(env.bs b o e).1,by unfold wo;split;rfl;exact(env.bs b o e).2⟩,env.bsz,env.funs,λb hb=>by unfold wo;split;rfl;exact env.frf b hb,env.hok.wo he,env.bare⟩
  refine codeAny_mono (F.run A outer s (wo [an] H) args us vs _ E hr env' hb hv h) λr s' hq=>?_;obtain⟨hx,its,n,hval,hg⟩:=env.hok an _ he;have nf:an∉frs outer:=λhm=>by have:=env.frf an hm;rw[he]at this;cases this
  have wn: ∀b,H b=none->wo [an] H b=none:=λb e=>by unfold wo;split;rfl;exact e
  have ws: ∀b o,H b=some o->(∀ys,o≠ .lst ys)->wo [an] H b=some o:=λb o e d=>A0J e λhm=>by rw[Gq.mp hm,he]at e;exact d xs (Hf e).symm
  unfold CR at hq ⊢;split at hq
  ·obtain⟨v,H',h1,h2,un,ok,rv,q⟩:=hq;have hn:H' an=none:=un.free an _ hg n0 (by simp);have up: ∀b,b≠an->upd H' an (.lst xs) b=H' b:=λb hb=>A4 hb;have ne: ∀b o,H b=some o->(∀ys,o≠ .lst ys)->b≠an:=λb o e d hb=>by rw[hb,he]at e;exact d xs (Hf e).symm
   refine⟨v,upd H' an (.lst xs),h1,h2,⟨?_,?_,?_,?_,?_,?_,?_⟩,?_,rv,q hn⟩
   ·exact λb o e1 e2 e3 e4=>un.keep b o e1 (wn b e2) e3 e4
   ·exact λb o e1 e2 e3 e4=>un.slot b o e1 (wn b e2) e3 e4
   ·intro b o e1 e2 e3;rw[up b (by rintro rfl;rw[he]at e2;cases e2)];exact un.free b o e1 (wn b e2) e3
   ·exact un.there
   ·intro b ys e;have d: ∀zs,HO.tup ys≠ .lst zs:=by intro zs e;cases e
    rw[up b (ne b _ e d)];exact un.tups b ys (ws b _ e d)
   ·intro b o u e;have d: ∀zs,HO.frz o u≠ .lst zs:=by intro zs e;cases e
    rw[up b (ne b _ e d)];exact un.frzs b o u (ws b _ e d)
   ·intro b ys e;have d: ∀zs,HO.tbl ys≠ .lst zs:=by intro zs e;cases e
    rw[up b (ne b _ e d)];exact un.tbls b ys (ws b _ e d)
   ·intro b o e;by_cases hb:b=an
    ·subst hb;rw[A3]at e;cases e;exact⟨hx,its,n,hval,un.keep b _ hg n0 nf (by simp)⟩
    ·rw[up b hb]at e;refine A2Z (λc u hc hu=>?_) (ok b o e);rw[up c (by rintro rfl;rw[hn]at hc;cases hc)];exact hc
  ·exact hq
  ·exact hq
def Cal.frame{K:Fg}{mg:MG}{base:Heap}{k:Nat}{x:Str}{ps:List Str}{sp:Sp}(c:Cal P w K mg base k x ps sp):Cal P w K mg base k x ps (A9Y sp):=by obtain⟨f,fd,hF,r⟩:=c.ex;exact⟨f,fd,hF.frame,r⟩
def fnOf(P:Nk)(w:World)(K:Fg)(mg:MG)(base:Heap)(f:Nh)(sp:Sp):Prop:=∃x k ps,mg x=some (.ref f)/\k<=10/\Cal P w K mg base k x ps sp
def C0r{K:Fg}{mg:MG}{base:Heap}{W:Wd}(I:In W P w K mg base 10){f:Nh}{sp:Sp}(h:fnOf P w K mg base f sp):C0L W f sp:=by obtain⟨rfl,rfl,rfl,rfl,rfl,hr⟩:=I;obtain⟨x,k,ps,hm,hk,c⟩:=h;obtain⟨f',fd,hF,hm',hkp,hb,_⟩:=c.ex;rw[hm]at hm';cases hm';exact⟨hkp,k,fd,ps,hF,hr.mono hk,hb⟩
end
@[simp↓]def C6f(K:Fg)(S:St)(H:Hp)(Q:VK)(i:Nat)(fn:Nh->Sp->Prop)(es:DA):D2 K (.callV i fn es) S H Q=∃f sp,S[i]?=some (some (.ref f))/\fn f sp/\A1r K es S H λvs H1=>sp vs H1 Q E0:=rfl
def B6f{H:Hp}{a:Nh}{o:HO}(h:H a=none):wo [a] (upd H a o)=H:=by
 funext b;unfold wo;by_cases e:b=a
 ·subst e;simp[h]
 ·rw[Gd (by simpa using e),A4 e]
end L2
namespace PP
open PySem PySem.Spec PyProof.Rows L2 TL
def B8o(l:List Int)(i j:Nat)(h:i<=j)(hj:j<=l.length):A2t (l.map V.int) (some (i:Int)) (some (j:Int))=((l.drop i).take (j -i)).map V.int:=by unfold A2t;rw[HT.sIx_nat,HT.sIx_nat,Gz,Jt hj,Jt (Hc h hj),List.map_take,List.map_drop]
open Kcp0Neutral in
def B7C{a:Int}{b:Nat}(h:natural a b=true): ∃k:Nat,a=(k:Int):=by simp[natural]at h;exact⟨a.toNat,by lia⟩
open Kcp0Neutral in
def C8z(H:Hp){j:Nat}{ws:List Int}(hj:j<25)(hr:rws j=0)(h:asked1 [(j:Int)::ws]=true):TlJ H (ws.map V.int) j (call [(j:Int)::ws]):=by
 have c: ∀{a:Int},0<=a->V.int a=.int (a.toNat:Nat):=λh=>by rw[Int.toNat_of_nonneg h]
 have l: ∀{n:Nat},(n:Int)=(j:Int)->j=n:=λh=>by lia
 iterate 25 (rcases j with _ | j; · repeat' (first
  |exact nf h
  |exact rfl
  |(have h:(_&&_)=true:=h;dsimp[natural,Ga,Gb]at h;first|exact⟨_,by rw[Gm,c h.1];rfl,rfl⟩|exact⟨_,_,by rw[Gm,Gm,c h.1.1,c h.2.1];rfl,rfl⟩|exact⟨_,_,_,by rw[Gm,Gm,Gm,c h.1.1.1,c h.1.2.1,c h.2.1];rfl,rfl⟩|exact⟨_,_,by rw[Gm,c h.1.1.1];rfl,rfl⟩|exact⟨_,_,_,_,by rw[Gm,Gm,Gm,c h.1.1.1.1.1,c h.1.1.1.2.1,c h.1.1.2.1];rfl,rfl⟩)
  |rcases ws with _|⟨a,ws⟩))
 lia
open Kcp0Neutral in
def C8y(H:Hp){j:Nat}{ws row:List Int}{lr:Nh}(hj:j<25)(hr:rws j=1)(hl:H lr=some (.lst (row.map V.int)))(h:asked1 [(j:Int)::ws,row]=true):TlJ H (ws.map V.int++[.ref lr]) j (call [(j:Int)::ws,row]):=by
 have hj':j=1\/j=7:=by
  unfold rws at hr;split at hr
  ·assumption
  ·cases hr
 rcases hj' with rfl|rfl
 ·match ws,h with
  |[],h=>have h:row.all (λ(z:Int)=>natural z 8)=true:=h;refine⟨lr,row,rfl,hl,λz hz=>?_,rfl⟩;have:=Iw.mp h z hz;simp[natural]at this;exact this.1
  |x::r,h=>exact(Gs h).elim
 ·match ws,h with
  |[],h=>exact(Gs h).elim
  |[a],h=>exact(Gs h).elim
  |[a,b],h=>have h:(natural a 32&&natural b 32&&row.length==8&&row.all (λ(z:Int)=>decide (-(2^31)<=z)&&decide (z<2^31)))=true:=h;dsimp[Ga]at h;obtain⟨⟨⟨h1,h2⟩,h3⟩,h4⟩:=h;obtain⟨a,rfl⟩:=B7C h1;obtain⟨b,rfl⟩:=B7C h2;exact⟨lr,a,b,row,rfl,hl,by simpa using h3,rfl⟩
  |a::b::x::r,h=>exact(Gs h).elim
noncomputable def B0b:List Str:=["on_begin","on_read","on_write","on_about","on_tidy","on_same","on_make","on_trial","on_sign","on_deal","on_items","on_item","on_see","on_choose","on_take","on_close","on_day","on_pays","on_pay","on_balance","on_net","on_assign","on_cancel","on_undo","on_redo"]
def B3J(mg:MG):Prop:=∀(j:Nat)(x:Str),B0b[j]?=some x->∃f,ad.U1[j]?=some f/\mg x=some (.ref f)
def A2U(K:Fg)(H:Hp)(a:Nh)(xs:List V):Prop:=(∃o,H a=some (.frz o (.lst xs)))\/∃(o:Obj)(its:Array Nj)(n:Nat),K.lookup a=some o/\o.cls=.type "list"/\o.dict=none/\o.data=.seq its n/\its.size<=sizeLine/\C9 xs its.toList
def A2U.sq{K:Fg}{H:Hp}{a:Nh}{xs:List V}(h:A2U K H a xs):SqL K H a xs:=by
 rcases h with⟨o,h⟩|h
 ·exact .inl (.inr ⟨o,h⟩)
 ·exact .inr h
def A2U.keep{K:Fg}{H H':Hp}{a:Nh}{xs:List V}(h:A2U K H a xs)(k: ∀o u,H a=some (.frz o u)->H' a=some (.frz o u)):A2U K H' a xs:=by
 rcases h with⟨o,h⟩|h
 ·exact .inl ⟨o,k _ _ h⟩
 ·exact .inr h
inductive B1d(K:Fg)(vs:List V)(H:Hp)(Q:VK)(E:XK):Prop
 |mk(a:Nh)(l:List Int)(_:vs=[.ref a])(_:A2U K H a (l.map V.int))(_:PyKcp0.answers_asked l=true)(_: ∀H' p,H' p=some (.lst ((PyKcp0.answers l).map V.int))->Q (.ref p) H')
variable{P:Nk}{w:World}{K:Fg}{mg:MG}{base:Heap}(T:Txt P w K mg)
def C2A(T:Txt P w K mg)(j:Nat)(hj:j<25): ∃x k ps,B0b[j]?=some x/\k<=10/\Cal P w K mg base k x ps (W0 j):=by
 match j,hj with
 |0,_=>exact⟨_,5,_,rfl,by decide,C7y T⟩
 |1,_=>exact⟨_,8,_,rfl,by decide,C7x T⟩
 |2,_=>exact⟨_,3,_,rfl,by decide,C7w T⟩
 |3,_=>exact⟨_,3,_,rfl,by decide,C7v T⟩
 |4,_=>exact⟨_,8,_,rfl,by decide,C7u T⟩
 |5,_=>exact⟨_,3,_,rfl,by decide,C7t T⟩
 |6,_=>exact⟨_,6,_,rfl,by decide,C7s T⟩
 |7,_=>exact⟨_,6,_,rfl,by decide,C7r T⟩
 |8,_=>exact⟨_,8,_,rfl,by decide,C7q T⟩
 |9,_=>exact⟨_,3,_,rfl,by decide,C7p T⟩
 |10,_=>exact⟨_,2,_,rfl,by decide,C40 T⟩
 |11,_=>exact⟨_,3,_,rfl,by decide,C4Z T⟩
 |12,_=>exact⟨_,9,_,rfl,by decide,C4Y T⟩
 |13,_=>exact⟨_,9,_,rfl,by decide,C4X T⟩
 |14,_=>exact⟨_,9,_,rfl,by decide,C4W T⟩
 |15,_=>exact⟨_,10,_,rfl,by decide,C4V T⟩
 |16,_=>exact⟨_,4,_,rfl,by decide,C4U T⟩
 |17,_=>exact⟨_,2,_,rfl,by decide,C4T T⟩
 |18,_=>exact⟨_,2,_,rfl,by decide,C4S T⟩
 |19,_=>exact⟨_,3,_,rfl,by decide,C4R T⟩
 |20,_=>exact⟨_,3,_,rfl,by decide,C4Q T⟩
 |21,_=>exact⟨_,6,_,rfl,by decide,C4P T⟩
 |22,_=>exact⟨_,5,_,rfl,by decide,C4O T⟩
 |23,_=>exact⟨_,2,_,rfl,by decide,C4N T⟩
 |24,_=>exact⟨_,2,_,rfl,by decide,C4M T⟩
 |j+25,h=>lia
inductive At(K:Fg)(l:List Int)(a d dx an:Nh)(m:Nat)(S:L2.St)(H:Hp):Prop
 |mk(k f:Nat)(s:Kcp0.Abs)(cs:List (List (List Int)))(D:PD)(b u:Nh)(A:List Int)(o4 o5 o6 o7 o8:Option V)(_:m=l.length -k)(_:k<=l.length)(_:S=[some (.ref a),some (.ref d),some (.ref an),some (.int k),o4,o5,o6,o7,o8])
  (_:A2U K H a (l.map V.int)) (_:H an=some (.lst (A.map V.int))) (_:G6 (wo [an] H) d dx b u D) (_:OkD D) (_:PyFlat.calls PyKcp0.shape f (l.drop k)=some cs) (_: ∀c∈cs,Kcp0Neutral.asked1 c=true) (_:Holds (B5 D) s cs) (_:A++due s cs=PyKcp0.answers l) (_:(PyKcp0.answers l).length<=1005000):At K l a d dx an m S H
noncomputable def B4N(fn:Nh->Sp->Prop):DB:=
  (.c (.set 7 (.ixG "HANDLERS" ad.A2l (ad.U1.map V.ref) (.v 4)))
  (.c (.set 8 (.callV 7 fn (.c (.v 1) (.c (.v 6) .z))))
  (.c (.expr (.mt .append (.v 2) (.blt .lenL (.c (.v 8) .z))))
  (.c (.expr (.mt .extL (.v 2) (.v 8))) .z))))
def B3Q(T:Txt P w K mg)(hh:B3J mg){l A:List Int}{a d dx an b u t:Nh}{D:PD}{s:Kcp0.Abs}{c:List (List Int)}{ds:List (List (List Int))}{j k k' g:Nat}{xs:List V}{H3:Hp}{o5 o7 o8:Option V}{De:A0H}{N:L2.St->Hp->Prop}(hj:j<25)(hk:k<k')(hk':k'<=l.length)(ha:A2U K H3 a (l.map V.int))(han:H3 an=some (.lst (A.map V.int)))(hd:G6 (wo [an] H3) d dx b u D)(ok:OkD D)(ht:wo [an] H3 t=some (.lst xs))(tl:TlJ (wo [an] H3) xs j (Kcp0Neutral.call c))(hcs:PyFlat.calls PyKcp0.shape g (l.drop k')=some ds)(each: ∀c∈ds,Kcp0Neutral.asked1 c=true)(ho:Holds (B5 D) s (c::ds))(due_:A++due s (c::ds)=PyKcp0.answers l)(few:(PyKcp0.answers l).length<=1005000)(hN: ∀m' S' H',m'<l.length -k->At K l a d dx an m' S' H'->N S' H'):
  J7 K (B4N (fnOf P w K mg base)) {De with nx:=N,ct:=N,bk:=De.nx} [some (.ref a),some (.ref d),some (.ref an),some (.int k'),some (.int j),o5,some (.ref t),o7,o8] H3:=by
 obtain⟨x,kk,ps,hx,hkk,cal⟩:=C2A (base:=base) T j hj;obtain⟨f,hf,hm⟩:=hh j x hx;have hi:atI (ad.U1.map V.ref) (j:Int)=some (.ref f):=by rw[M4];simp[hf]
 obtain⟨ho1,ho2⟩:=B3g ho;simp[B4N,↓gX hi];refine⟨A9Y (W0 j),⟨x,kk,ps,hm,hkk,cal.frame⟩,an,A.map V.int,han,d,dx,b,u,t,D,xs,Kcp0Neutral.call c,rfl,hd,ok,ht,tl,?_⟩;intro H' b' u' r D' kp hb' hu' ok' e hr hl hd' hn;have nr:r≠an:=λq=>by rw[q,hn]at hl;cases hl
 rw[B1X,<-ho1]at due_;have few':=few;rw[<-due_]at few';dsimp[Gg,Ge]at few';simp[↓Lsn nr,↓Ls hl];refine⟨by simp[sizeLine_eq];lia,by simp[sizeLine_eq];lia,hN (l.length -k') _ _ (by lia) ⟨k',g,_,ds,D',b',u',A++((Kcp0Neutral.tell (Kt (B5 D) (Kcp0Neutral.call c)).2).length:Int)::Kcp0Neutral.tell (Kt (B5 D) (Kcp0Neutral.call c)).2,_,_,_,_,_,rfl,hk',rfl,?_,?_,?_,ok',hcs,each,e▸ho2,?_,few⟩⟩
 ·refine ha.keep λo q he=>?_;have na:a≠an:=λz=>by rw[z,han]at he;cases he
  have h1:wo [an] H3 a=some (.frz o q):=A0J he (by simpa using na);obtain⟨s0,A0,hdc,_⟩:=hd.now;obtain⟨_,hbc,_⟩:=hd.bef;obtain⟨_,huc,_⟩:=hd.und;have h2:=kp a _ h1 (by dsimp[Gk,List.not_mem_nil,or_false,not_or];exact⟨λz=>(by rw[z,hdc]at h1;cases h1),λz=>(by rw[z,hbc]at h1;cases h1),λz=>(by rw[z,huc]at h1;cases h1)⟩)
  rw[A4 na];exact h2
 ·rw[A3];simp
 ·rw[B6f hn];exact hd'
 ·rw[<-due_];simp
def B5L(hh:B3J mg):T.A8Z.C T base 11 (B1d K):=by
 refine T.A8Z.g T (A9p _ (fnOf P w K mg base)) [none,none,none,none,none,none,none,none] (by nomatch C3d T,λf sp h=>C0r I h) ?_;obtain⟨a,l,rfl,ha,hl,q⟩;obtain⟨cs,A⟩:=B8H hl;simp[A9p];intro d dx hd hdx _;refine⟨d,dx,rfl,A3,λH1 b u k1 hb hu st=>⟨rfl,?_⟩⟩;have s1:A5 H H1:=A0g hd hdx k1;simp;intro an hn;refine A9C (At K l a d dx an) l.length ⟨0,l.length,Kcp0.first,cs,⟨P0 0,[],[]⟩,b,u,[],_,_,_,_,_,by simp,Il _,rfl,?_,A3,?_,?_,by simpa using A.are,A.each,.inr ⟨rfl,rfl,A.beg⟩,by rw[A.ans];rfl,by rw[A.ans];exact A.few⟩ ?_
 ·refine ha.keep λo u' e=>?_;rw[A4 (A2 (s1 _ _ e) hn)];exact s1 _ _ e
 ·rw[B6f hn];exact st
 ·exact⟨A8x (by lia),by simp,by simp,by simp⟩
 rintro m S H2 ⟨k,f,s,cs,D,b,u,A,o4,o5,o6,o7,o8,rfl,hk,rfl,h1,h2,h3,ok,h5,h6,h7,h8,h9⟩;refine⟨decide (k<l.length),λQ h=>?_,?_⟩
 ·simp;refine⟨a,_,rfl,h1.sq,?_⟩;simpa using h
 by_cases hlt:k<l.length
 ·left;refine⟨by simp[hlt],λN hN=>?_⟩;obtain⟨p,r,hpr⟩: ∃p r,l.drop k=p::r:=⟨l[k],l.drop (k+1),Jz hlt⟩
  have hr:r=l.drop (k+1):=by have:=Hm List.tail hpr;simpa[List.tail_drop] using this.symm
  have hp:l[k]?=some p:=by have:=Hm List.head? hpr;simpa[List.head?_drop] using this
  rw[hpr]at h5;obtain⟨g,c,t,ds,e1,e2,rfl⟩:=B3s h5;obtain⟨j,n,hj,rfl,hw,hnr,hc⟩:=B5H e1;have hn':k+1+n<=l.length:=by have:=Hm List.length hr;simp at this;lia
  have hWh:atI [V.int 1,.int 0,.int 1,.int 1,.int 1,.int 2,.int 4,.int 2,.int 3,.int 1,.int 0,.int 1,.int 2,.int 3,.int 2,.int 0,.int 0,.int 0,.int 1,.int 1,.int 1,.int 3,.int 2,.int 0,.int 0] (j:Int)=some (.int (n:Int)):=by rw[M4];show(wh.map V.int)[j]?=_;rw[Ha,hw];rfl
  have hget:atI (l.map V.int) (k:Int)=some (.int (j:Int)):=by rw[M4];simp[hp]
  have i1:((k:Int)+1)=((k+1:Nat):Int):=by simp
  have i2:(((k+1:Nat):Int)+(n:Int))=((k+1+n:Nat):Int):=by simp
  have asked:=h6 c (by simp);have each: ∀c∈ds,Kcp0Neutral.asked1 c=true:=λx hx=>h6 x (by simp[hx]);simp;refine⟨a,_,rfl,h1.sq,?_⟩;simp[↓gX hget,↓gX hWh];refine⟨a,_,rfl,h1.sq,λt1 ht1=>?_⟩;rw[i1,i2,B8o l (k+1) (k+1+n) (by lia) hn',<-hr];rw[Ke];have na:an≠t1:=A2 h2 ht1;have s1:=A5.new (o:=.lst ((r.take n).map V.int)) ht1;have g1:A2U K (upd H2 t1 (.lst ((r.take n).map V.int))) a (l.map V.int):=h1.keep λo u e=>by rw[A4 (A2 e ht1)];exact e
  have g2:upd H2 t1 (.lst ((r.take n).map V.int)) an=some (.lst (A.map V.int)):=s1 _ _ h2;have g3:=h3.mono (Kp.of (X:=[an]) s1).wo;have g4:wo [an] (upd H2 t1 (.lst ((r.take n).map V.int))) t1=some (.lst ((r.take n).map V.int)):=A0J A3 (by simpa using na.symm);rcases hc with⟨r0,rfl,rfl⟩|⟨r1,m,q',e3,hm,rfl,rfl⟩
  ·have j1: ¬(j:Int)=1/\¬(j:Int)=7:=by
    unfold rws at r0;split at r0
    ·cases r0
    ·rename_i h;lia
   have hdr:r.drop n=l.drop (k+1+n):=by rw[hr,List.drop_drop]
   have tl:=B3Q (base:=base) T hh (o5:=some (.int ((k+1:Nat):Int))) (o7:=o7) (o8:=o8) (De:={nx:=J7 K (.c (.r (.v 2)) .z) {nx:=kNx Q,rt:=Q},rt:=Q}) hj (k:=k) (k':=k+1+n) (by lia) hn' g1 g2 g3 ok g4 (C8z _ hj r0 asked) (by rw[<-hdr];exact e2) each h7 h8 h9 hN;simp[j1.1,j1.2];simpa[B4N] using tl
  ·have j1:(j:Int)=1\/(j:Int)=7:=by
    unfold rws at r1;split at r1
    ·rename_i h;lia
    ·cases r1
   have hdr:r.drop n=l.drop (k+1+n):=by rw[hr,List.drop_drop]
   have hq:q'=l.drop (k+1+n+1):=by have:=Hm List.tail (hdr.symm.trans e3);simpa[List.tail_drop] using this.symm
   have hm':k+1+n+1+m<=l.length:=by have:=Hm List.length hq;have h2:=Hm List.length (hdr.symm.trans e3);simp at this h2;lia
   have hgm:atI (l.map V.int) ((k+1+n:Nat):Int)=some (.int (m:Int)):=by rw[M4,Ha];have:=Hm List.head? (hdr.symm.trans e3);rw[List.head?_drop]at this;rw[this];rfl
   have pick: ∀{X Y:Prop},X->(if(j:Int)=1 then X else if(j:Int)=7 then X else Y):=λ{X Y} x=>by rcases j1 with j1|j1<;>simp[j1,x]
   have i3:((k:Int)+1+n+1)=((k+1+n+1:Nat):Int):=by simp
   have i4:(((k+1+n+1:Nat):Int)+(m:Int))=((k+1+n+1+m:Nat):Int):=by simp
   refine pick ⟨a,_,rfl,g1.sq,gI hgm ?_⟩;simp[-List.map_take];refine⟨a,_,rfl,g1.sq,λp hp=>?_⟩;rw[i3,i4,B8o l (k+1+n+1) (k+1+n+1+m) (by lia) hm',Ke,<-hq];have nt:t1≠p:=A2 A3 hp;have np:an≠p:=A2 g2 hp;have nlr:p≠an:=np.symm;refine⟨t1,_,rfl,by rw[A4 nt,A3],by
    have h4:n<=4:=by have:=Gw hw;simp[wh]at this;omega
    rw[sizeLine_eq];simp;lia,?_⟩
   have s2:=A5.new (o:=.lst ((q'.take m).map V.int)) hp;have k1:Kp [an,t1] (upd H2 t1 (.lst ((r.take n).map V.int))) (upd (upd (upd H2 t1 (.lst ((r.take n).map V.int))) p (.lst ((q'.take m).map V.int))) t1 (.lst ((r.take n).map V.int++[.ref p]))):=(Kp.of s2).upd (.inl (by simp));have f1:A2U K (upd (upd (upd H2 t1 (.lst ((r.take n).map V.int))) p (.lst ((q'.take m).map V.int))) t1 (.lst ((r.take n).map V.int++[.ref p]))) a (l.map V.int):=g1.keep λo u e=>by
    have n1:a≠t1:=λz=>by rw[z,A3]at e;cases e
    rw[A4 n1,A4 (A2 e hp)];exact e
   have f2:(upd (upd (upd H2 t1 (.lst ((r.take n).map V.int))) p (.lst ((q'.take m).map V.int))) t1 (.lst ((r.take n).map V.int++[.ref p]))) an=some (.lst (A.map V.int)):=by rw[A4 na,A4 np];exact g2
   have f3:G6 (wo [an] (upd (upd (upd H2 t1 (.lst ((r.take n).map V.int))) p (.lst ((q'.take m).map V.int))) t1 (.lst ((r.take n).map V.int++[.ref p])))) d dx b u D:=by refine h3.mono λx o e=>?_;obtain⟨e1,e2⟩:=A8y e;refine A0J ?_ e2;have n1:x≠t1:=A2 e1 ht1;have n2:x≠p:=A2 (s1 _ _ e1) hp;rw[A4 n1,A4 n2,A4 n1];exact e1
   have f4:wo [an] (upd (upd (upd H2 t1 (.lst ((r.take n).map V.int))) p (.lst ((q'.take m).map V.int))) t1 (.lst ((r.take n).map V.int++[.ref p]))) t1=some (.lst ((r.take n).map V.int++[.ref p])):=A0J A3 (by simpa using na.symm);have f5:wo [an] (upd (upd (upd H2 t1 (.lst ((r.take n).map V.int))) p (.lst ((q'.take m).map V.int))) t1 (.lst ((r.take n).map V.int++[.ref p]))) p=some (.lst ((q'.take m).map V.int)):=A0J (by rw[A4 nt.symm,A3]) (by simpa using nlr);have hdr2:q'.drop m=l.drop (k+1+n+1+m):=by rw[hq,List.drop_drop]
   have tl:=B3Q (base:=base) T hh (o5:=some (.int ((k+1+n+1:Nat):Int))) (o7:=o7) (o8:=o8) (De:={nx:=J7 K (.c (.r (.v 2)) .z) {nx:=kNx Q,rt:=Q},rt:=Q}) hj (k:=k) (k':=k+1+n+1+m) (by lia) hm' f1 f2 f3 ok f4 (C8y _ hj r1 f5 asked) (by rw[<-hdr2];exact e2) each h7 h8 h9 hN;simpa[B4N] using tl
 ·right;refine⟨by simp[hlt],?_⟩;have hk':k=l.length:=by lia
  subst hk';rw[List.drop_length]at h5;have:=B5G h5;subst this;rw[C0w,Hw]at h8;simp;exact q _ _ (by rw[h2,h8])
def C3q(T:Txt P w K mg)(hh:B3J mg){fa:Nh}{fd:FuncData}{oc:Nj}{od:Option Nh}{sl:Array (Option Nj)}(hm:mg "answers"=some (.ref fa)) (lk:K.lookup fa=some ⟨oc,od,.func fd,sl⟩) (base:Heap):A1t P w K mg base CX0 11 fa fd ["calls"] (B1d K):=by obtain⟨f',fd',h3,h4,_,_,oc',od',sl',lk'⟩:=(B5L (base:=base) T hh).ex;rw[hm]at h4;cases h4;rw[lk]at lk';cases lk';exact h3
end PP
section
namespace Att
open PySem PySem.W PySem.Calls PyProof.Rows
section
variable{prog:Nk}{w:World}{A:Around}{E:Nj->Ni->Prop}{s:Ni}{K:Frag}
end
end Att
namespace L2
open PySem PySem.Spec PyProof.Rows
end L2
end
section
namespace L2
open PySem PySem.Spec PyProof.Rows
open PySem.W (WData Codec OpenSpec Well WellAll ReadsW ReadsAllW)
mutual
inductive Dw(K:Fg)(H:Hp):V->WData->Prop
 |non:Dw K H .non .none
 |bl(b:Bool):Dw K H (.bl b) (.bool b)
 |int(i:Int):Dw K H (.int i) (.int i)
 |str(x:Str):Dw K H (.str x) (.str x)
 |byt(b:Array UInt8):Dw K H (.byt b) (.bytes b.toList)
 |lst{a:Nh}{xs:List V}{ds:List WData}:SqL K H a xs->A0Z K H xs ds->Dw K H (.ref a) (.list ds)
 |tup{a:Nh}{xs:List V}{ds:List WData}:SqT K H a xs->A0Z K H xs ds->Dw K H (.ref a) (.tuple ds)
inductive A0Z(K:Fg)(H:Hp):List V->List WData->Prop
 |nil:A0Z K H [] []
 |cons{v:V}{vs:List V}{d:WData}{ds:List WData}:Dw K H v d->A0Z K H vs ds->A0Z K H (v::vs) (d::ds)
end
theorem B4A{K:Fg}{H:Hp}: ∀ns:List Int,A0Z K H (ns.map V.int) (ns.map WData.int)
 |[]=>.nil
 |n::r=>.cons (.int n) (B4A r)
theorem B4n{K:Fg}{H:Hp}: ∀(ns:List Int)(xs:List V),A0Z K H xs (ns.map WData.int)->xs=ns.map V.int
 |[],xs,h=>by cases h;rfl
 |n::r,xs,h=>by
  cases h with
  |cons h1 h2=>cases h1;rw[B4n r _ h2]<;>rfl
section
variable{P:Nk}{w:World}{K:Fg}{H:Hp}{h:Heap}{R:PySem.W.WRecords}{cl:Str->Option Nh}
def C1G{a:Nh}{xs:List V}(hok:HOk P w H h)(KX:K.In h)(q:SqL K H a xs): ∃(its:List Nj)(o:Obj)(n:Nat),C9 xs its/\h.get? a=some o/\o.cls=.type "list"/\o.data=.seq its.toArray n:=by
 rcases q with q|⟨o,its,n,e,hc,_,hd,_,hv⟩
 ·obtain⟨_,its,n,hv,e⟩:=(show N6 P w H h a (.lst xs) from q.ok hok)
  exact⟨its,_,n,hv,e,rfl,rfl⟩
 ·exact⟨its.toList,o,n,hv,KX _ _ e,hc,by simp[hd]⟩
def C1F{a:Nh}{xs:List V}(hok:HOk P w H h)(KX:K.In h)(q:SqT K H a xs): ∃(its:List Nj)(o:Obj)(n:Nat),C9 xs its/\h.get? a=some o/\o.cls=.type "tuple"/\o.data=.seq its.toArray n:=by
 rcases q with q|⟨o,its,n,e,hc,hd,_,hv⟩
 ·obtain⟨_,its,hv,o,e,hc,n,hd⟩:=(show N6 P w H h a (.tup xs) from q.ok hok)
  exact⟨its,o,n,hv,e,hc,hd⟩
 ·exact⟨its.toList,o,n,hv,KX _ _ e,hc,by simp[hd]⟩
mutual
theorem Dw.reads(hok:HOk P w H h)(KX:K.In h): ∀(d:WData)(v:V)(u:Nj),Dw K H v d->D7 v u->∃as,ReadsW R cl h u d as
 |.none,_,_,x,r=>by cases x;cases r;exact⟨_,ReadsW.none⟩
 |.bool b,_,_,x,r=>by cases x;cases r;exact⟨_,ReadsW.bool b⟩
 |.int i,_,_,x,r=>by cases x;obtain⟨t,rfl⟩:=r;exact⟨_,ReadsW.int i t⟩
 |.str s,_,_,x,r=>by cases x;obtain⟨t,rfl⟩:=r;exact⟨_,ReadsW.str s t⟩
 |.bytes b,_,_,x,r=>by cases x;obtain⟨t,rfl⟩:=r;exact⟨_,ReadsW.bytes _ t⟩
 |.list ds,_,_,x,r=>by
  cases x with
  |lst hs ha=>cases r;obtain⟨its,o,n,rv,ho,hc,hd⟩:=C1G hok KX hs;obtain⟨as,hr⟩:=Dw.readsAll hok KX ds _ its ha rv;exact⟨_,ReadsW.list ho hc hd hr⟩
 |.tuple ds,_,_,x,r=>by
  cases x with
  |tup hs ha=>cases r;obtain⟨its,o,n,rv,ho,hc,hd⟩:=C1F hok KX hs;obtain⟨as,hr⟩:=Dw.readsAll hok KX ds _ its ha rv;exact⟨_,ReadsW.tuple ho hc hd hr⟩
 |.float _,_,_,x,_=>by cases x
 |.dict _,_,_,x,_=>by cases x
 |.bytearray _,_,_,x,_=>by cases x
 |.set _,_,_,x,_=>by cases x
 |.frozenset _,_,_,x,_=>by cases x
 |.obj _ _,_,_,x,_=>by cases x
theorem Dw.readsAll(hok:HOk P w H h)(KX:K.In h): ∀(ds:List WData)(vs:List V)(us:List Nj),A0Z K H vs ds->C9 vs us->∃as,ReadsAllW R cl h us ds as
 |[],_,_,x,r=>by cases x;cases r;exact⟨_,ReadsAllW.nil⟩
 |d::ds,_,_,x,r=>by
  cases x with
  |cons h1 h2=>
   cases r with
   |cons r1 r2=>obtain⟨as,q1⟩:=Dw.reads hok KX d _ _ h1 r1;obtain⟨bs,q2⟩:=Dw.readsAll hok KX ds _ _ h2 r2;exact⟨_,ReadsAllW.cons q1 q2⟩
end
end
mutual
def plW:WData->Bool
 |.none=>true
 |.bool _=>true
 |.int _=>true
 |.str _=>true
 |.bytes _=>true
 |.list xs=>A5A xs
 |.tuple xs=>A5A xs
 |_=>false
def A5A:List WData->Bool
 |[]=>true
 |x::r=>plW x&&A5A r
end
theorem B1m{S:Type}{f:S->WData}(h: ∀a,plW (f a)=true): ∀l:List S,A5A (l.map f)=true
 |[]=>rfl
 |x::r=>by show(plW (f x)&&A5A (r.map f))=true;rw[h x,B1m h r]<;>rfl
theorem A1I: ∀(c:Codec)(a:c.denote),plW (c.enc a)=true
 |.unit,_=>rfl
 |.bool,_=>rfl
 |.int _ _,_=>rfl
 |.nat _ _,_=>rfl
 |.u8,_=>rfl
 |.bytes _ _,_=>rfl
 |.text _ _ _ _,_=>rfl
 |.list _ _ c,a=>B1m (λx=>A1I c x) a
 |.pair c d,a=>by show(plW (c.enc a.1)&&(plW (d.enc a.2)&&true))=true;rw[A1I c a.1,A1I d a.2]<;>rfl
 |.triple c d e,a=>by show(plW (c.enc a.1)&&(plW (d.enc a.2.1)&&(plW (e.enc a.2.2)&&true)))=true;rw[A1I c a.1,A1I d a.2.1,A1I e a.2.2]<;>rfl
 |.option c,none=>rfl
 |.option c,some x=>A1I c x
theorem A8v: ∀(cs:List Codec)(a:Codec.denoteAll cs),A5A (Codec.encAll cs a)=true
 |[],_=>rfl
 |c::cs,a=>by show(plW (c.enc a.1)&&A5A (Codec.encAll cs a.2))=true;rw[A1I c a.1,A8v cs a.2]<;>rfl
theorem A2V: ∀{xs:List WData}{d:WData},d∈xs->d.weight<=WData.weightAll xs
 |[],d,h=>Gn h (by simp)
 |x::r,d,h=>by
  show d.weight<=x.weight+1+WData.weightAll r;rcases Gk.mp h with e|m
  ·rw[e];omega
  ·have z:=A2V m;omega
noncomputable def toV:Nj->V
 |.none=>.non
 |.bool b=>.bl b
 |.int i _=>.int i
 |.str x _=>.str x
 |.bytes b _=>.byt b
 |.ref a=>.ref a
 |_=>.non
def OkU(A:List Nh):Nj->Prop
 |.none=>True
 |.bool _=>True
 |.int _ _=>True
 |.str _ _=>True
 |.bytes _ _=>True
 |.ref a=>a∈A
 |_=>False
def OkU.mono{A B:List Nh}(h: ∀a∈A,a∈B): ∀{u:Nj},OkU A u->OkU B u:=λ{u} x=>by
 cases u with
 |ref a=>exact h a x
 |none=>trivial
 |bool b=>trivial
 |int i t=>trivial
 |str s t=>trivial
 |bytes b t=>trivial
 |_=>exact Ik x
def B6W{A:List Nh}{u:Nj}(x:OkU A u):D7 (toV u) u:=by
 cases u with
 |ref a=>rfl
 |none=>rfl
 |bool b=>rfl
 |int i t=>exact⟨t,rfl⟩
 |str s t=>exact⟨t,rfl⟩
 |bytes b t=>exact⟨t,rfl⟩
 |_=>exact Ik x
theorem A0K{A:List Nh}: ∀{vs:List Nj},(∀u∈vs,OkU A u)->C9 (vs.map toV) vs
 |[],_=>.nil
 |u::r,h=>.cons (B6W (h u (Hi ..))) (A0K λx hx=>h x (Gh _ hx))
def A1o(h:Heap)(A:List Nh)(a:Nh):Prop:=∃vs:List Nj,vs.length<=sizeLine/\(∀u∈vs,OkU A u)/\
 (h.get? a=some {cls:=.type "list",data:=.seq vs.toArray}\/h.get? a=some {cls:=.type "tuple",data:=.seq vs.toArray})
def A1o.mono{h:Heap}{A B:List Nh}{a:Nh}(k: ∀a∈A,a∈B)(x:A1o h A a):A1o h B a:=by obtain⟨vs,h1,h2,h3⟩:=x;exact⟨vs,h1,λu hu=>(h2 u hu).mono k,h3⟩
theorem A0t{P:Params}{h:Heap}: ∀{vs:List Nj}{ds:List WData},WellAll P h vs ds->vs.length=ds.length
 |_,_,.nil=>rfl
 |_,_,.cons _ b=>by show _+1=_+1;rw[A0t b]
def A8h{P:Params}{h:Heap}{v:Nj}{ds:List WData}(x:Well P h v (.list ds)): ∃(a:Nh)(vs:List Nj),v=.ref a/\h.get? a=some {cls:=.type "list",data:=.seq vs.toArray}/\WellAll P h vs ds:=by
 cases x with
 |list ho hall=>exact⟨_,_,rfl,ho,hall⟩
def A5Y{P:Params}{h:Heap}{v:Nj}{ds:List WData}(x:Well P h v (.tuple ds)): ∃(a:Nh)(vs:List Nj),v=.ref a/\h.get? a=some {cls:=.type "tuple",data:=.seq vs.toArray}/\WellAll P h vs ds:=by
 cases x with
 |tuple ho hall=>exact⟨_,_,rfl,ho,hall⟩
def A8i{P:Params}{h:Heap}{us:List Nj}{d:WData}{ds:List WData}(x:WellAll P h us (d::ds)): ∃(v:Nj)(vs:List Nj),us=v::vs/\Well P h v d/\WellAll P h vs ds:=by
 cases x with
 |cons a b=>exact⟨_,_,rfl,a,b⟩
def B4c{n:Nat}(h:n<=1048576):n<=sizeLine:=Hc h (by decide)
section
variable{P:Params}{h:Heap}
mutual
theorem B8J: ∀(d:WData)(v:Nj),Well P h v d->plW d=true->d.weight<=1048576->∃A:List Nh,OkU A v/\∀a∈A,A1o h A a
 |.none,_,x,_,_=>by cases x;exact⟨[],trivial,λa m=>Gn m (by simp)⟩
 |.bool b,_,x,_,_=>by cases x;exact⟨[],trivial,λa m=>Gn m (by simp)⟩
 |.int i,_,x,_,_=>by cases x;exact⟨[],trivial,λa m=>Gn m (by simp)⟩
 |.str s,_,x,_,_=>by cases x;exact⟨[],trivial,λa m=>Gn m (by simp)⟩
 |.bytes b,_,x,_,_=>by cases x;exact⟨[],trivial,λa m=>Gn m (by simp)⟩
 |.list ds,_,x,p,z=>by
  obtain⟨a,vs,rfl,ho,hall⟩:=A8h x;have z2:WData.weightAll ds<=1048576:=z;obtain⟨A,h1,h2⟩:=A31 ds _ hall p λd hd=>Hc (A2V hd) z2;have k: ∀b∈A,b∈a::A:=λb hb=>Gh _ hb;refine⟨a::A,Hi ..,λb hb=>?_⟩;rcases Gk.mp hb with e|m
  ·rw[e];exact⟨vs,B4c (by rw[A0t hall];exact Hc (PySem.W.length_le_weightAllW ds) z2),λu hu=>(h1 u hu).mono k,.inl ho⟩
  ·exact(h2 b m).mono k
 |.tuple ds,_,x,p,z=>by
  obtain⟨a,vs,rfl,ho,hall⟩:=A5Y x;have z2:WData.weightAll ds<=1048576:=z;obtain⟨A,h1,h2⟩:=A31 ds _ hall p λd hd=>Hc (A2V hd) z2;have k: ∀b∈A,b∈a::A:=λb hb=>Gh _ hb;refine⟨a::A,Hi ..,λb hb=>?_⟩;rcases Gk.mp hb with e|m
  ·rw[e];exact⟨vs,B4c (by rw[A0t hall];exact Hc (PySem.W.length_le_weightAllW ds) z2),λu hu=>(h1 u hu).mono k,.inr ho⟩
  ·exact(h2 b m).mono k
 |.float _,_,_,p,_=>Bool.noConfusion (show false=true from p)
 |.dict _,_,_,p,_=>Bool.noConfusion (show false=true from p)
 |.bytearray _,_,_,p,_=>Bool.noConfusion (show false=true from p)
 |.set _,_,_,p,_=>Bool.noConfusion (show false=true from p)
 |.frozenset _,_,_,p,_=>Bool.noConfusion (show false=true from p)
 |.obj _ _,_,_,p,_=>Bool.noConfusion (show false=true from p)
theorem A31: ∀(ds:List WData)(vs:List Nj),WellAll P h vs ds->A5A ds=true->(∀d∈ds,d.weight<=1048576)->∃A:List Nh,(∀u∈vs,OkU A u)/\∀a∈A,A1o h A a
 |[],_,x,_,_=>by cases x;exact⟨[],λu m=>Gn m (by simp),λa m=>Gn m (by simp)⟩
 |d::ds,_,x,p,z=>by
  obtain⟨v,vs,rfl,x1,x2⟩:=A8i x;have q:plW d=true/\A5A ds=true:=Bool.and_eq_true_iff.mp p;obtain⟨A,a1,a2⟩:=B8J d v x1 q.1 (z d (Hi ..));obtain⟨B,b1,b2⟩:=A31 ds vs x2 q.2 λe he=>z e (Gh _ he);have kA: ∀b∈A,b∈A++B:=λb hb=>Gp.mpr (.inl hb);have kB: ∀b∈B,b∈A++B:=λb hb=>Gp.mpr (.inr hb);refine⟨A++B,λu hu=>?_,λb hb=>?_⟩
  ·rcases Gk.mp hu with e|m
   ·rw[e];exact a1.mono kA
   ·exact(b1 u m).mono kB
  ·rcases Gp.mp hb with m|m
   ·exact(a2 b m).mono kA
   ·exact(b2 b m).mono kB
end
end
noncomputable def C0k(o:Obj):Option HO:=match o.data with
 |.seq vs _=>if(o.cls==Value.type "list")=true then some (.frz o (.lst (vs.toList.map toV))) else some (.frz o (.tup (vs.toList.map toV)))
 |_=>none
noncomputable def A1c(K:Fg)(h:Heap)(A:List Nh):Hp:=λb=>if b∈A then(if(K.lookup b).isNone=true then(h.get? b).bind C0k else none) else none
def A9t(H:Hp):Prop:=∀b,H b=none\/∃o u,H b=some (.frz o u)
def B1L(vs:List Nj):C0k {cls:=.type "list",data:=.seq vs.toArray}=some (.frz {cls:=.type "list",data:=.seq vs.toArray} (.lst (vs.map toV))):=by show(if(Value.type "list"==Value.type "list")=true then some (HO.frz {cls:=.type "list",data:=.seq vs.toArray} (.lst (vs.toArray.toList.map toV))) else some (HO.frz {cls:=.type "list",data:=.seq vs.toArray} (.tup (vs.toArray.toList.map toV))))=_;rw[Gf (beq_self_eq_true _)]
def B1K(vs:List Nj):C0k {cls:=.type "tuple",data:=.seq vs.toArray}=some (.frz {cls:=.type "tuple",data:=.seq vs.toArray} (.tup (vs.map toV))):=by show(if(Value.type "tuple"==Value.type "list")=true then some (HO.frz {cls:=.type "tuple",data:=.seq vs.toArray} (.lst (vs.toArray.toList.map toV))) else some (HO.frz {cls:=.type "tuple",data:=.seq vs.toArray} (.tup (vs.toArray.toList.map toV))))=_;rw[Gd (by decide)]
section
variable{P:Nk}{w:World}{K:Fg}{h:Heap}{A:List Nh}
def A5T{b:Nh}{o:Obj}(hb:b∈A)(hk:K.lookup b=none)(e:h.get? b=some o):A1c K h A b=C0k o:=by unfold A1c;rw[Gf hb,hk,Gf (show(none:Option Obj).isNone=true from rfl),e]<;>rfl
def B96{b:Nh}{u:HO}(q:A1c K h A b=some u):b∈A/\K.lookup b=none:=by
 unfold A1c at q;by_cases hb:b∈A
 ·rw[Gf hb]at q
  cases hk:K.lookup b with
  |none=>exact⟨hb,rfl⟩
  |some o=>rw[hk,Gd (by simp)]at q;cases q
 ·rw[Gd hb]at q;cases q
def A5S(ar: ∀a∈A,A1o h A a){b:Nh}{u:HO}(q:A1c K h A b=some u):K.lookup b=none/\∃vs:List Nj,vs.length<=sizeLine/\(∀u∈vs,OkU A u)/\
  ((h.get? b=some {cls:=.type "list",data:=.seq vs.toArray}/\u=.frz {cls:=.type "list",data:=.seq vs.toArray} (.lst (vs.map toV)))\/
   (h.get? b=some {cls:=.type "tuple",data:=.seq vs.toArray}/\u=.frz {cls:=.type "tuple",data:=.seq vs.toArray} (.tup (vs.map toV)))):=by
 obtain⟨hb,hk⟩:=B96 q;obtain⟨vs,h1,h2,h3⟩:=ar b hb;refine⟨hk,vs,h1,h2,?_⟩;rcases h3 with e|e
 ·rw[A5T hb hk e,B1L]at q;exact .inl ⟨e,(Hf q).symm⟩
 ·rw[A5T hb hk e,B1K]at q;exact .inr ⟨e,(Hf q).symm⟩
def B5O(ar: ∀a∈A,A1o h A a):A9t (A1c K h A):=λb=>by
 cases q:A1c K h A b with
 |none=>exact .inl rfl
 |some u=>
  obtain⟨_,vs,_,_,⟨_,e⟩|⟨_,e⟩⟩:=A5S ar q
  ·exact .inr ⟨_,_,by rw[e]⟩
  ·exact .inr ⟨_,_,by rw[e]⟩
def C0F(ar: ∀a∈A,A1o h A a):HOk P w (A1c K h A) h:=λb u q=>by
 obtain⟨_,vs,h1,h2,⟨e,rfl⟩|⟨e,rfl⟩⟩:=A5S ar q
 ·exact⟨e,by rw[Gz];exact h1,vs,_,A0K h2,e⟩
 ·exact⟨e,by rw[Gz];exact h1,vs,A0K h2,_,e,rfl,_,rfl⟩
def A5P{c c':Nj}{vs us:List Nj}(e:(some {cls:=c,data:=.seq vs.toArray}:Option Obj)=some {cls:=c',data:=.seq us.toArray}):c=c'/\vs=us:=by have e1:=Hf e;have e2:c=c':=Hm Obj.cls e1;have e3:Data.seq vs.toArray=Data.seq us.toArray:=Hm Obj.data e1;injection e3 with e4;refine⟨e2,?_⟩;have e5:=Hm Array.toList e4;simpa using e5
def C8B(KX:K.In h)(ar: ∀a∈A,A1o h A a){a:Nh}{vs:List Nj}(ha:a∈A) (e:h.get? a=some {cls:=.type "list",data:=.seq vs.toArray}):(∀u∈vs,OkU A u)/\SqL K (A1c K h A) a (vs.map toV):=by
 obtain⟨us,h1,h2,h3⟩:=ar a ha;have hu:us=vs:=by
  rcases h3 with q|q
  ·rw[e]at q;exact(A5P q).2.symm
  ·rw[e]at q;exact Gn (Value.type.inj (A5P q).1) (by decide)
 subst hu;refine⟨h2,?_⟩
 cases hk:K.lookup a with
 |none=>exact .inl (.inr ⟨_,by rw[A5T ha hk e,B1L]⟩)
 |some o=>have e2:=KX a o hk;rw[e]at e2;obtain rfl:=Hf e2;exact .inr ⟨_,us.toArray,_,hk,rfl,rfl,rfl,by rw[Go];exact h1,by simpa using A0K h2⟩
def C8A(KX:K.In h)(ar: ∀a∈A,A1o h A a){a:Nh}{vs:List Nj}(ha:a∈A) (e:h.get? a=some {cls:=.type "tuple",data:=.seq vs.toArray}):(∀u∈vs,OkU A u)/\SqT K (A1c K h A) a (vs.map toV):=by
 obtain⟨us,h1,h2,h3⟩:=ar a ha;have hu:us=vs:=by
  rcases h3 with q|q
  ·rw[e]at q;exact Gn (Value.type.inj (A5P q).1) (by decide)
  ·rw[e]at q;exact(A5P q).2.symm
 subst hu;refine⟨h2,?_⟩
 cases hk:K.lookup a with
 |none=>exact .inl (.inr ⟨_,by rw[A5T ha hk e,B1K]⟩)
 |some o=>have e2:=KX a o hk;rw[e]at e2;obtain rfl:=Hf e2;exact .inr ⟨_,us.toArray,_,hk,rfl,rfl,by rw[Go];exact h1,by simpa using A0K h2⟩
mutual
theorem C23{Pm:Params}(KX:K.In h)(ar: ∀a∈A,A1o h A a): ∀(d:WData)(v:Nj),Well Pm h v d->plW d=true->OkU A v->Dw K (A1c K h A) (toV v) d
 |.none,_,x,_,_=>by cases x;exact .non
 |.bool b,_,x,_,_=>by cases x;exact .bl b
 |.int i,_,x,_,_=>by cases x;exact .int i
 |.str s,_,x,_,_=>by cases x;exact .str s
 |.bytes b,_,x,_,_=>by cases x;have z:=Dw.byt (K:=K) (H:=A1c K h A) b.toArray;exact z
 |.list ds,_,x,p,hu=>by obtain⟨a,vs,rfl,ho,hall⟩:=A8h x;obtain⟨h2,hs⟩:=C8B KX ar hu ho;exact .lst hs (B0j KX ar ds _ hall p h2)
 |.tuple ds,_,x,p,hu=>by obtain⟨a,vs,rfl,ho,hall⟩:=A5Y x;obtain⟨h2,hs⟩:=C8A KX ar hu ho;exact .tup hs (B0j KX ar ds _ hall p h2)
 |.float _,_,_,p,_=>Bool.noConfusion (show false=true from p)
 |.dict _,_,_,p,_=>Bool.noConfusion (show false=true from p)
 |.bytearray _,_,_,p,_=>Bool.noConfusion (show false=true from p)
 |.set _,_,_,p,_=>Bool.noConfusion (show false=true from p)
 |.frozenset _,_,_,p,_=>Bool.noConfusion (show false=true from p)
 |.obj _ _,_,_,p,_=>Bool.noConfusion (show false=true from p)
theorem B0j{Pm:Params}(KX:K.In h)(ar: ∀a∈A,A1o h A a): ∀(ds:List WData)(vs:List Nj),WellAll Pm h vs ds->A5A ds=true->(∀u∈vs,OkU A u)->A0Z K (A1c K h A) (vs.map toV) ds
 |[],_,x,_,_=>by cases x;exact .nil
 |d::ds,_,x,p,hu=>by obtain⟨v,vs,rfl,x1,x2⟩:=A8i x;have q:plW d=true/\A5A ds=true:=Bool.and_eq_true_iff.mp p;exact .cons (C23 KX ar d v x1 q.1 (hu _ (Hi ..))) (B0j KX ar ds vs x2 q.2 λu m=>hu u (Gh _ m))
end
end
def B4X{P:Nk}{w:World}{K:Fg}{mg mb:Str->Option Nj}{CX:CXT}{k:Nat}{fa:Nh}{fd:FuncData}{ps:List Str}{sp:Sp}{s1:Ni}{vals:List Nj}{ds:List WData}{R:PySem.W.WRecords}{cl:Str->Option Nh}{d0:WData}(KX:K.In s1.heap)(hns:s1.heap.Ns mainGlobals mg)(hb:s1.heap.Ns builtinsNs mb) (hbb: ∀x:Str,x≠"__name__"->mb x=bootBuiltins x) (hlim:s1.heap.NoLimit) (hg:s1.gens= #[])
  (hwl:WellAll w.params s1.heap vals ds) (hpl:A5A ds=true) (hwt: ∀d∈ds,d.weight<=1048576) (hr:Q8 k callerA)
  (F: ∀base:Heap,K.In base->base.Ns mainGlobals mg->A1t P w K mg base CX k fa fd ps sp) (hbind: ∀(s:Ni)(us:List Nj),us.length=ps.length->BindsTo s fd ⟨us,[]⟩ (ps.zip us)) (hlen:ds.length=ps.length)
  (hsp: ∀(H:Hp)(xs:List V),A9t H->A0Z K H xs ds->sp xs H (λv H'=>Dw K H' v d0) λ_ _ _=>False)
  (hCX: ∀H e s',CX [] H s1 (λ_ _ _=>False) e s'->False):
  codeAny (model P w) callerA (.call (.ref fa) ⟨vals,[]⟩) (λr s'=>∃u as,r=.ok (.ret u)/\ReadsW R cl s'.heap u d0 as/\OldK s1.heap s'.heap/\s'.os=s1.os/\AllBare s'.gens) s1:=by
 obtain⟨A,ho,ar⟩:=A31 ds vals hwl hpl hwt;have hO:A9t (A1c K s1.heap A):=B5O ar;have hok:HOk P w (A1c K s1.heap A) s1.heap:=C0F ar;have hS:=B0j KX ar ds vals hwl hpl ho;have hV:=A0K ho;have hK: ∀b u,A1c K s1.heap A b=some u->K.lookup b=none:=λb u q=>(A5S ar q).1;have noA: ∀{b:Nh}{o:Obj}{es:Array DictEntry}{ep:Nat},s1.heap.get? b=some o->o.data=.dict es ep->A1c K s1.heap A b=none:=λ{b o es ep} e d=>by
  cases q:A1c K s1.heap A b with
  |none=>rfl
  |some u=>
   obtain⟨_,vs,_,_,⟨e2,_⟩|⟨e2,_⟩⟩:=A5S ar q
   ·rw[e2]at e;cases e;have d':Data.seq vs.toArray _=Data.dict es ep:=d;cases d'
   ·rw[e2]at e;cases e;have d':Data.seq vs.toArray _=Data.dict es ep:=d;cases d'
 generalize A1c K s1.heap A=H at hO hok hS hK noA;have base_of: ∀{b:Nh}{o:Obj},s1.heap.get? b=some o->H b=none->(B0a s1.heap H).get? b=some o:=λe n=>B7W e n;have nsK: ∀{b:Nh}{m:Str->Option Nj},s1.heap.Ns b m->(B0a s1.heap H).Ns b m:=λ{b m} ⟨o,es,ep,e,d,r⟩=>⟨o,es,ep,base_of e (noA e d),d,r⟩;have nK: ∀b o,K.lookup b=some o->H b=none:=λb o e=>by
  cases q:H b with
  |none=>rfl
  |some u=>rw[hK b u q]at e;cases e
 have hKb:K.In (B0a s1.heap H):=λb o e=>base_of (KX b o e) (nK b o e);have hM:Mod K mg (B0a s1.heap H):=⟨hKb,nsK hns,⟨mb,nsK hb,hbb⟩,let ⟨mc,h1,h2⟩:=hlim;⟨mc,nsK h1,h2⟩⟩
 have e0:B2B P w K mg (B0a s1.heap H) callerA [] s1 H:=⟨rfl,hM,λb o e=>B95 e,Kh (B5s _ _),trivial,λb hb=>Gn (show b∈([]:List Nh) from hb) (by simp),hok,.of_eq hg⟩
 have hl:vals.length=ps.length:=by rw[A0t hwl];exact hlen
 refine codeAny_mono ((F _ hKb (nsK hns)).run callerA [] s1 H ⟨vals,[]⟩ vals (vals.map toV) _ _ hr e0 (hbind s1 vals hl) hV (hsp H _ hO hS)) λr s' x=>?_
 cases r with
 |error e=>exact(hCX H e s' x).elim
 |ok fl=>
  cases fl with
  |next=>exact Ik x
  |brk=>exact Ik x
  |cont=>exact Ik x
  |ret u=>
   obtain⟨v,H',os,bare,un,hok',r',q⟩:=x;have kept: ∀b o,s1.heap.get? b=some o->s'.heap.get? b=some o:=λb o e=>by
    cases q2:H b with
    |none=>exact un.keep b o e q2 (by intro z;exact Gn (show b∈([]:List Nh) from z) (by simp)) (by simp)
    |some u2=>
     rcases hO b with z|⟨ob,u3,z⟩
     ·rw[q2]at z;cases z
     ·have z2:=un.frzs b ob _ z;obtain⟨e1,_⟩:=hok b _ z;obtain⟨e2,_⟩:=hok' b _ z2;rw[e]at e1;cases e1;exact e2
   have KX':K.In s'.heap:=λb o e=>kept b o (KX b o e);obtain⟨as,hrd⟩:=Dw.reads (R:=R) (cl:=cl) hok' KX' d0 v u q r';exact⟨u,as,rfl,hrd,OldK.of_keep kept,os,bare⟩
def A6r{ds:List WData}(h:WData.layableAll ds=true): ∀d∈ds,d.weight<=1048576:=λd hd=>
 (PySem.W.layableW_iff.mp (Iw.mp h d hd)).2.2
theorem A6T: ∀(cs:List Codec)(a:Codec.denoteAll cs),(Codec.encAll cs a).length=cs.length
 |[],_=>rfl
 |c::cs,a=>by show(Codec.encAll cs a.2).length+1=cs.length+1;rw[A6T cs a.2]
def B4S{r:OpenSpec}{k:Nat}{q:Nk}{loose:List Str}{XP:(Str->Option Nj)->Heap->Prop}{YP:World->Heap->Prop}{d:DefRec}{K:Params->Fg}{CX:World->CXT}{ps:List Str}{sp:World->Sp}(hwell:r.wellSaid=true)(hdf:d.params.defaults=[])(hlen:r.args.length=ps.length)(hr:Q8 k callerA)(hY: ∀(w:World)(h:Heap),YP w h->(K w.params).In h)(F: ∀(w:World)(mg:MG)(fa:Nh)(h:Heap),YP w h->(K w.params).In h->h.Ns mainGlobals mg->mg d.name=some (.ref fa)->
   ∃fd:FuncData,(∀(s:Ni)(us:List Nj),us.length=ps.length->BindsTo s fd ⟨us,[]⟩ (ps.zip us))/\
    ∀base:Heap,(K w.params).In base->base.Ns mainGlobals mg->A1t r.prog w (K w.params) mg base (CX w) k fa fd ps (sp w))(hsp: ∀(w:World)(H:Hp)(xs:List V)(a:Codec.denoteAll r.args),A9t H->Codec.withinAll r.args a=true->Codec.app r.args r.asked a=true->A0Z (K w.params) H xs (Codec.encAll r.args a)->
   sp w xs H (λv H'=>Dw (K w.params) H' v (r.ret.enc (Codec.app r.args r.f a))) λ_ _ _=>False)(hCX: ∀(w:World)(H:Hp)(s:Ni)(e:Nj)(s':Ni),CX w [] H s (λ_ _ _=>False) e s'->False):
  PySem.W.WalkOS q loose XP YP r d [] (λf vs=>PySem.call f vs):=by
 intro w s_0 s1 mg mb G Y fa o pm cd doc dV kV ho hd hcd hD hmg hg args vals as hpre hlay hrd hwl hlo;obtain⟨a,e1,e2⟩:=PySem.W.os_pre_some hpre;obtain⟨e3,hwi⟩:=Codec.encAll_of_decAll r.args args a e1;subst e3;have KX:=hY w _ Y;obtain⟨fd,hb,hF⟩:=F w mg fa _ Y KX G.T.g hmg
 refine PySem.W.enter_call (codeAny_mono (B4X (R:=[]) (cl:=classAt s_0.heap) (d0:=r.ret.enc (Codec.app r.args r.f a)) KX G.T.g G.T.b G.T.builtins G.T.nolimit hg hwl (A8v _ _) (A6r hlay) hr hF hb (by rw[A6T];exact hlen)
  (λH xs hO hS=>hsp w H xs a hO hwi e2 hS) λH e s'=>hCX w H s1 e s') λr' s' hq=>?_)
 obtain⟨u,as',rfl,h1,h2,h3,h4⟩:=hq;exact⟨.inl ⟨u,_,as',rfl,λ_=>rfl,h1,(OpenSpec.post_iff hwell hwi _ _).mpr rfl,λz=>Bool.noConfusion (show false=true from z)⟩,h2,h3,h4⟩
def B2E{r:OpenSpec}{k:Nat}{q:Nk}{loose:List Str}{XP:(Str->Option Nj)->Heap->Prop}{YP:World->Heap->Prop}{d:DefRec}{K:Params->Fg}{CX:CXT}{ps:List Str}{sp:Fg->Sp}(hwell:r.wellSaid=true)(hdf:d.params.defaults=[])(hlen:r.args.length=ps.length)(hr:Q8 k callerA)(hY: ∀(w:World)(h:Heap),YP w h->(K w.params).In h)(F: ∀(w:World)(mg:MG)(fa:Nh)(h:Heap),YP w h->(K w.params).In h->h.Ns mainGlobals mg->mg d.name=some (.ref fa)->
   ∃fd:FuncData,(∀(s:Ni)(us:List Nj),us.length=ps.length->BindsTo s fd ⟨us,[]⟩ (ps.zip us))/\
    ∀base:Heap,(K w.params).In base->base.Ns mainGlobals mg->A1t r.prog w (K w.params) mg base CX k fa fd ps (sp (K w.params)))(hsp: ∀(K:Fg)(H:Hp)(xs:List V)(a:Codec.denoteAll r.args),A9t H->Codec.withinAll r.args a=true->Codec.app r.args r.asked a=true->A0Z K H xs (Codec.encAll r.args a)->
   sp K xs H (λv H'=>Dw K H' v (r.ret.enc (Codec.app r.args r.f a))) λ_ _ _=>False)(hCX: ∀(H:Hp)(s:Ni)(e:Nj)(s':Ni),CX [] H s (λ_ _ _=>False) e s'->False):
  PySem.W.WalkOS q loose XP YP r d [] (λf vs=>PySem.call f vs):=
 B4S (K:=K) (CX:=λ_=>CX) (sp:=λw=>sp (K w.params)) hwell hdf hlen hr hY F (λw H xs a h1 h2 h3 h4=>hsp (K w.params) H xs a h1 h2 h3 h4) λ_ H s e s'=>hCX H s e s'
end L2
end
namespace PP
open PySem PySem.Spec PyProof.Rows L2
section
variable{P:Nk}{w:World}{K:Fg}{mg:MG}{h:Heap}{a p:Nh}
def A6t(l:List (Str×Tok×Str×Tok)){ep:Nat}(hl:K.lookup a=some {cls:=.type "dict",data:=.dict (l.map λx=>⟨PyData.keyHash w.params x.1,.str x.1 x.2.1,.str x.2.2.1 x.2.2.2⟩).toArray ep}) (hn:(l.map (·.1)).Nodup) (hs:(a==sysModules)=false):
  B2y P w K a (l.map λx=>(.inr x.1,.str x.2.2.1)):=by
 refine⟨hs,l.map λx=>(.inr x.1,.str x.2.2.1 x.2.2.2),?_,λh KX=>⟨_,_,_,KX _ _ hl,⟨rfl,rfl,rfl⟩,rfl,?_,?_,?_⟩⟩
 ·clear hl hn
  induction l with
  |nil=>exact .nil
  |cons x l ih=>exact .cons ⟨rfl,_,rfl⟩ ih
 ·intro e he;dsimp[List.mem_toArray,Ip]at he;obtain⟨x,_,rfl⟩:=he;exact⟨.inr x.1,A1L ..,rfl⟩
 ·clear hl hn;show Pairs _ (l.map _).toArray.toList _;rw[Ju]
  induction l with
  |nil=>exact .nil
  |cons x l ih=>exact .cons (A1L ..) rfl ih
 ·rw[Iu];show(l.map ((Sum.inr ·)∘(·.1))).Nodup;rw[<-Iu];exact List.Pairwise.map _ (λa b h e=>h (Sum.inr.inj e)) hn
def B4f{xs:List V}{vs:List Nj}{n:Nat}(hl:K.lookup p=some {cls:=.type "tuple",data:=.seq vs.toArray n}) (hz:vs.length<=1000) (hv:C9 xs vs):B3I K p xs:=
 ⟨_,vs.toArray,n,hl,rfl,rfl,rfl,by rw[Go];exact Hc hz (by decide),by rw[Ju];exact hv⟩
def B78{x:Str}{st:Stmt}{ps:List Str}{f:Nh}{oc:Nj}{od an:Option Nh}{osl:Array (Option Nj)}{kV doc pm cdv ct:Nj}(KX:K.In h)(G:h.Ns mainGlobals mg)(b: ∀(kV doc pm:Nj)(an:Option Nh)(cdv ct:Nj)(us:List Nj),us.length=ps.length->bindArgs (PySem.W.fnOf x x (Z1 st) (M9 st) (C6 st) .none kV doc pm an cdv ct) ⟨us,[]⟩=pure (ps.zip us):=by bv_omega)(e:↥(PySem.W.nsIn K mainGlobals x=some (some (.ref f))))(l:↥(K.lookup f=some ⟨oc,od,.func (PySem.W.fnOf x x (Z1 st) (M9 st) (C6 st) .none kV doc pm an cdv ct),osl⟩))(c:↥(PySem.W.codeIn K cdv x=true))(k:↥(PySem.W.keepIn K (.ref f)=true)):B1 K mg x st ps:=
 have F:=B77 (st:=st) l c k
 ⟨f,_,F,PySem.W.mg_of KX G e,F.binds b⟩
def B8q{x q:Str}{st:Stmt}{ps:List Str}{C f:Nh}{oc:Nj}{od an:Option Nh}{osl:Array (Option Nj)}{kV doc pm cdv ct:Nj}(KX:K.In h)(G:h.Ns mainGlobals mg)
  (b: ∀(kV doc pm:Nj)(an:Option Nh)(cdv ct:Nj)(us:List Nj),us.length=ps.length->bindArgs (PySem.W.fnOf "__init__" q (Z1 st) (M9 st) (C6 st) .none kV doc pm an cdv ct) ⟨us,[]⟩=pure (ps.zip us):=by bv_omega) (e:↥(PySem.W.nsIn K mainGlobals x=some (some (.ref C))))
  (pg:↥(PySem.W.plainGet K C Str.empty=true)) (hd:↥(PySem.W.hasDictIn K C=true)) (po:↥(PySem.W.plainOver K C=true)) (sa:↥(PySem.W.findIn K (.ref C) "__setattr__"=some (some (.builtin "object.__setattr__"))))
  (mk:↥(PySem.W.makesIn K C=true)) (i:↥(PySem.W.findIn K (.ref C) "__init__"=some (some (.ref f)))) (fn:↥(PySem.W.isFn K (.ref f)=true)) (kc:↥(PySem.W.keepIn K (.ref C)=true))
  (l:↥(K.lookup f=some ⟨oc,od,.func (PySem.W.fnOf "__init__" q (Z1 st) (M9 st) (C6 st) .none kV doc pm an cdv ct),osl⟩)) (c:↥(PySem.W.codeIn K cdv q=true)) (k:↥(PySem.W.keepIn K (.ref f)=true)):Y6 K mg x q st ps C:=
 have F:=B77 (st:=st) l c k
 ⟨⟨pg,hd,po,sa⟩,f,_,⟨mk,i,fn,kc⟩,F,PySem.W.mg_of KX G e,F.binds b⟩
def C41{x:Str}(KX:K.In h)(G:h.Ns mainGlobals mg)(e:↥(PySem.W.nsIn K mainGlobals x=some none)):mg x=none:=PySem.W.mg_none_of KX G e
def C2F{x:Str}{a:Nh}(KX:K.In h)(G:h.Ns mainGlobals mg)(e:↥(PySem.W.nsIn K mainGlobals x=some (some (.ref a)))):mg x=some (.ref a):=PySem.W.mg_of KX G e
def C1a{C:Nh}{f:Str}(e:↥(PySem.W.findIn K (.ref C) f=some none)):A1d K C f:=e
def C5k{x:Str}{i:Int}{t:Tok}(KX:K.In h)(G:h.Ns mainGlobals mg)(e:↥(PySem.W.nsIn K mainGlobals x=some (some (.int i t)))): ∃u,mg x=some u/\D7 (.int i) u:=⟨_,PySem.W.mg_of KX G e,_,rfl⟩
def C5j{x:Str}{i:Str}{t:Tok}(KX:K.In h)(G:h.Ns mainGlobals mg)(e:↥(PySem.W.nsIn K mainGlobals x=some (some (.str i t)))): ∃u,mg x=some u/\D7 (.str i) u:=⟨_,PySem.W.mg_of KX G e,_,rfl⟩
def B4s{x:Str}{a:Nh}(KX:K.In h)(G:h.Ns mainGlobals mg)(e:↥(PySem.W.nsIn K mainGlobals x=some (some (.ref a)))): ∃u,mg x=some u/\D7 (.ref a) u:=⟨_,PySem.W.mg_of KX G e,rfl⟩
def C3n{H:Hp}{xs:List V}{l:List Int}(hO:A9t H)(hask:PyKcp0.answers_asked l=true)(hx:A0Z K H xs [.list (l.map PySem.W.WData.int)]):B1d K xs H (λv H'=>Dw K H' v (.list ((PyKcp0.answers l).map PySem.W.WData.int))) λ_ _ _=>False:=by
 cases hx with
 |cons h1 h2=>
  cases h2
  cases h1 with
  |lst hs ha=>
   have e:=L2.B4n l _ ha;subst e;refine⟨_,l,rfl,?_,hask,λH' p hp=>.lst (L2.SqL.of hp) (L2.B4A _)⟩;rcases hs with(z|⟨o,z⟩)|z
   ·rcases hO _ with q|⟨o,u,q⟩
    ·rw[q]at z;cases z
    ·rw[q]at z;cases z
   ·exact .inl ⟨o,z⟩
   ·exact .inr z
def HL(mg:MG):List Str->List Nh->Prop
 |[],[]=>True
 |x::xs,a::as=>mg x=some (.ref a)/\HL mg xs as
 |_,_=>False
theorem HL.at{mg:MG}: ∀{xs:List Str}{as:List Nh},HL mg xs as->∀(j:Nat)(x:Str),xs[j]?=some x->∃f,as[j]?=some f/\mg x=some (.ref f)
 |[],[],_,j,x,e=>by simp at e
 |[],_::_,h,_,_,_=>h.elim
 |_::_,[],h,_,_,_=>h.elim
 |y::xs,a::as,h,0,x,e=>by simp at e;subst e;exact⟨a,rfl,h.1⟩
 |y::xs,a::as,h,j+1,x,e=>by obtain⟨f,h1,h2⟩:=HL.at h.2 j x (by simpa using e);exact⟨f,by simpa using h1,h2⟩
def C1A{fa f:Nh}{oc:Nj}{od an:Option Nh}{osl:Array (Option Nj)}{kV doc pm cdv ct:Nj}(KX:K.In h)(G:h.Ns mainGlobals mg) (hfa:mg "answers"=some (.ref fa)) (T:Txt P w K mg) (hh:HL mg B0b ad.U1)
  (e:PySem.W.nsIn K mainGlobals "answers"=some (some (.ref f))) (l:K.lookup f=some ⟨oc,od,.func (PySem.W.fnOf "answers" "answers" (Z1 A4h) (M9 A4h) (C6 A4h) .none kV doc pm an cdv ct),osl⟩):
  ∃fd:FuncData,(∀(s:Ni)(us:List Nj),us.length=(["calls"]:List Str).length->BindsTo s fd ⟨us,[]⟩ ((["calls"]:List Str).zip us))/\∀base:Heap,K.In base->base.Ns mainGlobals mg->A1t P w K mg base CX0 11 fa fd ["calls"] (B1d K):=by
 have e:=hfa.symm.trans (PySem.W.mg_of KX G e);cases e;exact⟨_,λs=>ln1 λ_=>.of_eq rfl,λbase _ _=>C3q T hh.at hfa l base⟩
end
end PP
open PySem PySem.W PyProof.Rows
local macro_rules
 | `(tactic| bv_omega) => `(tactic| (intro _ _ _ _ _ _; first | (refine PP.ln1 ?_; intros; rfl) | (refine PP.ln2 ?_; intros; rfl) | (refine PP.ln3 ?_; intros; rfl) | (refine PP.ln4 ?_; intros; rfl) | (refine PP.ln5 ?_; intros; rfl) | (refine PP.ln6 ?_; intros; rfl) | (refine PP.ln7 ?_; intros; rfl)))
set_option maxRecDepth 100000 in
set_option maxHeartbeats 0 in
def PP.P3:PP.WK PP.hd.heap_1:=by
 unfold PP.WK;k_fillS;intro q l X Y d e1 e2 hY;refine L2.B2E (r:=PySem.Challenge.rw_payingpromises_s01_answers) (k:=11) (CX:=L2.CX0) (ps:=["calls"]) (sp:=λK=>PP.B1d K) PP.ws e1 rfl ⟨rfl,by decide,by decide⟩ hY ?_ (λK H xs a hO hwi hask hx=>PP.C3n (l:=a.1) hO hask hx) (λ_ _ _ _ z=>z);intro w mg fa h _ KX G hmg;rw[e2]at hmg;have T:PP.Txt PySem.Challenge.rw_payingpromises_s01_answers.prog w (PP.hd.heap_1 w.params) mg:=by
  constructor
  ·intro W base k I;unfold PP.tab
   repeat' (first|exact L2.Al.z|with_reducible apply L2.Al.c)
   all_goals first
    |exact I.blt (PP.C41 KX G)
    |exact I.fld ⟨by k_is,by k_is,by k_is,by k_is⟩ PP.C1a
    |exact I.glo (PP.C5k KX G)
    |exact I.glo (PP.C5j KX G)
    |exact I.tup (PP.B4s KX G) (PP.B4f (by k_is) (by decide) (by repeat (first|exact .nil|refine .cons ⟨_,rfl⟩ ?_|refine .cons rfl ?_)))
    |exact I.dict (PP.B4s KX G) (PP.A6t [("nothing",_,"",_),("one",_,"u",_),("both",_,"cc",_),("or",_,"cc",_),("turn",_,"c",_),("times",_,"xc",_),("if",_,"pcc",_),("at",_,"dc",_),("when",_,"dpc",_),("any",_,"dc",_)] (by k_is) (by decide) rfl)
    |exact I.dict (PP.B4s KX G) (PP.A6t [("le",_,"xx",_),("lt",_,"xx",_),("not",_,"p",_),("all",_,"pp",_),("some",_,"pp",_)] (by k_is) (by decide) rfl)
    |exact I.dict (PP.B4s KX G) (PP.A6t [("add",_,"xx",_),("sub",_,"xx",_),("mul",_,"xx",_)] (by k_is) (by decide) rfl)
  all_goals first
   |exact PP.B78 KX G
   |exact PP.B8q KX G
   |exact PP.B4f (by k_is) (by decide) (by repeat (first|exact .nil|refine .cons ⟨_,rfl⟩ ?_))
 have hh:PP.HL mg PP.B0b PP.ad.U1:=by repeat (first|exact trivial|refine⟨PP.C2F KX G,?_⟩)
 exact PP.C1A KX G hmg T hh (by k_is) (by k_is)
theorem PySem.Challenge.cw_payingpromises_s01_answers_holds : PySem.Challenge.rw_payingpromises_s01_answers.Holds := by
 exact PP.hd.2 PP.P3
