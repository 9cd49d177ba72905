import Derived.Test.YtcfcafeciggjeaaGreatDoorK8
namespace Go.Proofs.YtcfcafeciggjeaaGreatDoor
set_option maxHeartbeats 1600000
set_option linter.unusedVariables false
set_option linter.unusedSimpArgs false
set_option maxRecDepth 100000
open Go.ChangeShapes Go.WideShapes Go.ChangeAt Go.RowKit Go.Proofs.Tryz
variable {l:List Int}
def leB (l m:List Int):Bool:=Op.bytesLess (aY l).toList (aY m).toList||(aY l).toList==(aY m).toList
def dH:aA:=⟨[],[],0,0,[],0,0,[]⟩
def gq (e g:Int) (ss:List aL) (ns:List aA) (k:Nat):Bool:=
 let nd:=ns.getD k dH
 (vp nd.path&&(k==0||!leB nd.path (ns.getD (k-1) dH).path))&&(dG ns (dF nd.path)&&(decide (nd.value.length<=40)&&((nd.owner==0||live ss nd.owner)&&(dZ ss nd.holders&&(dZ ss nd.watchers&&dh e g nd.mode nd.holders.length nd.aD nd.gen)))))
theorem oG (h:bQ l):bQ (dF l):=by
 unfold dF;split;{intro x hx;simp at hx;omega};{exact fun x hx=>h x (List.mem_of_mem_take hx)}
theorem kL.ew {w:World} {v:Value} (h:kL w v l):∃ p c n,v=.slice p n c/\Hid (l.length=n):=by
 obtain ⟨p,c,rfl,-⟩:=h;exact ⟨p,c,_,rfl,(by show _=_;rfl)⟩
theorem vV (e g x t:Int) (p q:Option Addr) (c n d m k:Nat) (ss:List aL) (ns:List aA) (en:Hid (ss.length=n)) (em:Hid (ns.length=m)) (w:World) (h:IS w (.slice p n c) ss) (hN:mi w (.slice q m d) ns) (hn:n<=1048576) (hm:m<=1048576) (hk:k<m)
  (fK:Hid (∀ nd∈ns,bQ nd.path/\nd.path.length<=1048576/\nd.value.length<=1048576/\nd.holders.length<=1048576/\nd.watchers.length<=1048576)) (B:Bool) (eB:Hid (gq e g ss ns k=B)) :
  Calls prog 34 #[cK e g x t (.slice p n c) (.slice q m d),.int .i64 k] w fun r w'=>r=.returned (.bool B)/\Below w.heap.size w w':=by
 have HR:=ae fun (w':World) (hb:Below w.heap.size w w')=>ag (h.below hb) (hN.below hb);have dT:k<ns.length:=by rw [aa em];exact hk
 obtain ⟨nd,hy⟩:∃ y,ns[k]?=some y:=⟨_,aE dT⟩;have xo:ns.getD k dH=nd:=by rw [List.getD_eq_getElem?_getD,hy];rfl
 obtain ⟨b,o,rfl,hA⟩:=hN.at (by omega);obtain ⟨P,V,H,U,aK⟩:=hA k nd hy;obtain ⟨vm,js,Lj,Li,PV⟩:=aa fK _ (aF hy);obtain ⟨pp,pc,pn,rfl,wX⟩:=aK.r0.ew;obtain ⟨Ja,vc,vn,rfl,Np⟩:=aK.r1.ew;obtain ⟨hp,hc,hh,rfl,BF⟩:=aK.r4.ew;obtain ⟨up,uc,un,rfl,Ej⟩:=aK.r7.ew;have GQ:pn<=1048576:=by rw [<-aa wX];exact js
 have OO:vn<=1048576:=by rw [<-aa Np];exact Lj
 have Fj:hh<=1048576:=by rw [<-aa BF];exact Li
 have Kt:un<=1048576:=by rw [<-aa Ej];exact PV
 have Jd:(k:Int)<(m:Int):=by omega
 have aa0:(0:Int)<=(k:Int):=by omega
 have b1:Below w.heap.size w (w.alloc (.cells #[.int .u64 e,.int .u64 g,.int .u64 x,.int .i64 t,.slice p n c,.slice (some ⟨b,o,none⟩) m d] 27)):=ay.alloc ax _;have ZN:=aK.below b1;obtain ⟨c0,c1,c2,c3,c4,c5,c6,c7,-,-,-,-,-⟩:=ZN;have HYD:=ae xo;have kM:=ae aK;have Fp:=ae vm;have HA:=ae hA;clear aK hA xo vm js Lj Li PV hN h;go_enter func34,ntmps34;go_wp2_with fail;obtain ⟨X,hX⟩:=ar ((w.alloc (.cells #[.int .u64 e,.int .u64 g,.int .u64 x,.int .i64 t,.slice p n c,.slice (some ⟨b,o,none⟩) m d] 27)).alloc (.cells #[.slice pp pn pc,.slice Ja vn vc,.int .u64 nd.owner,.int .i64 nd.mode,.slice hp hh hc,.int .u64 nd.aD,.int .u64 nd.gen,.slice up un uc] 38));have bX:Below w.heap.size w X:=by rw [hX];exact b1.alloc (by simp) _
 have iX:mh X w.heap.size e g x t (.slice p n c) (.slice (some ⟨b,o,none⟩) m d):=by rw [hX];simp [mh]
 have nX:kk X (w.heap.size+1) 0 nd (.slice pp pn pc) (.slice Ja vn vc) (.slice hp hh hc) (.slice up un uc):=
  ⟨by rw [hX];simp,by rw [hX];simp,by rw [hX];simp,by rw [hX];simp,by rw [hX];simp,by rw [hX];simp,by rw [hX];simp,by rw [hX];simp,kM.r0.below bX,kM.r1.below bX,kM.r4.below bX,kM.r7.below bX,kM.k0⟩
 rw [<-hX];have BX:=ae bX;have IX:=ae iX;have NX:=ae nX;clear hX b1 c0 c1 c2 c3 c4 c5 c6 c7 bX iX nX;obtain ⟨V1,eV⟩:=aN (vp nd.path);have EV:=ae eV;clear eV;obtain ⟨C,eC⟩:∃ C,(!(V1&&(k==0||!leB nd.path (ns.getD (k-1) dH).path)))=C:=⟨_,rfl⟩;have hB:B=(!C&&(dG ns (dF nd.path)&&(decide (nd.value.length<=40)&&((nd.owner==0||live ss nd.owner)&&(dZ ss nd.holders&&(dZ ss nd.watchers&&dh e g nd.mode nd.holders.length nd.aD nd.gen)))))):=by rw [<-aa eB,gq,aa HYD,<-eC,Bool.not_not,show vp nd.path=V1 from aa EV]
 go_cut [32] (fun rv wc=>rv=.bool C/\Below w.heap.size w wc/\mh wc w.heap.size e g x t (.slice p n c) (.slice (some ⟨b,o,none⟩) m d)/\kk wc (w.heap.size+1) 0 nd (.slice pp pn pc) (.slice Ja vn vc) (.slice hp hh hc) (.slice up un uc))
 case first =>(
 cases V1 with
 | false=>
  have El:C=true:=by rw [<-eC];rfl
  subst El;clear eC;refine wp_region_noPanic ?_;refine wp_region_held_drew (S:=fun w'=>w'.cell? ⟨w.heap.size+1,0,none⟩=some (.slice pp pn pc)/\w'.cell? ⟨w.heap.size,5,none⟩=some (.slice (some ⟨b,o,none⟩) m d)/\Rd w' (.slice pp pn pc) nd.path) (by kernel_rfl) (by exact ⟨NX.c0,IX.2.2.2.2.2,NX.r0⟩) (fun hS=>?_);refine dQ 0 1 hS ?_;refine ry [2] ?_;refine cn (fun KK hK=>?_) ?_;{refine fw (rY pp pc pn nd.path wX _ (by exact NX.r0) Fp GQ false EV) ?_;rintro r w2 ⟨rfl,aS⟩;refine ⟨_,rfl,?_⟩;have cL:Below X.heap.size X w2:=ai (Below.refl X.heap.size X).drew aS;refine bm hK (by exact ⟨af NX.c0 cL,af IX.2.2.2.2.2 cL,NX.r0.below cL⟩) fun hS=>?_;clear hK KK;refine dQ 3 4 hS ?_;refine sn 5 hS ?_;refine sn 6 hS ?_;refine sn 7 hS ?_;refine sn 8 hS ?_;refine sn 9 hS ?_;refine sn 10 hS ?_;refine sn 11 hS ?_;refine sn 12 hS ?_;refine sn 13 hS ?_;refine sn 14 hS ?_;refine sn 15 hS ?_;refine sn 16 hS ?_;refine sn 17 hS ?_;refine sn 18 hS ?_;refine sn 19 hS ?_;refine sn 20 hS ?_;refine tn 21 hS ?_;refine wpAnyH_done (by kernel_rfl) ?_ _;refine aX ?_;clear hS;go_wp2_with fail;go_meet;exact ⟨rfl,ai BX cL,IX.below cL,NX.below cL⟩};exact AllReadyH.nil
 | true=>
  by_cases vf:k=0;{
 have El:C=false:=by rw [<-eC,vf];rfl
 subst El;have Xf:¬ 0<k:=by omega
 have aV1:¬ (0:Int)<(k:Int):=by omega
 clear eC vf;refine wp_region_noPanic ?_;refine wp_region_held_drew (S:=fun w'=>w'.cell? ⟨w.heap.size+1,0,none⟩=some (.slice pp pn pc)/\w'.cell? ⟨w.heap.size,5,none⟩=some (.slice (some ⟨b,o,none⟩) m d)/\Rd w' (.slice pp pn pc) nd.path) (by kernel_rfl) (by exact ⟨NX.c0,IX.2.2.2.2.2,NX.r0⟩) (fun hS=>?_);refine dQ 0 1 hS ?_;refine aH 2 fun KK hK=>?_;refine fw (rY pp pc pn nd.path wX _ (by exact NX.r0) Fp GQ true EV) ?_;rintro r w2 ⟨rfl,aS⟩;refine ⟨_,rfl,?_⟩;have cL:Below X.heap.size X w2:=ai (Below.refl X.heap.size X).drew aS;refine bm hK (by exact ⟨af NX.c0 cL,af IX.2.2.2.2.2 cL,NX.r0.below cL⟩) fun hS=>?_;clear hK KK;refine gp 3 4 5 6 hS ?_;refine tn 7 hS ?_;refine sn 8 hS ?_;refine sn 9 hS ?_;refine sn 10 hS ?_;refine sn 11 hS ?_;refine sn 12 hS ?_;refine sn 13 hS ?_;refine sn 14 hS ?_;refine sn 15 hS ?_;refine sn 16 hS ?_;refine sn 17 hS ?_;refine sn 18 hS ?_;refine sn 19 hS ?_;refine dQ 20 21 hS ?_;refine wpAnyH_done (by kernel_rfl) ?_ _;refine aX ?_;clear hS;go_wp2_with fail;go_meet;exact ⟨rfl,ai BX cL,IX.below cL,NX.below cL⟩};{
 obtain ⟨j,ej⟩:∃ j:Nat,(k:Int)-1=(j:Int):=⟨k-1,by omega⟩;have By:k-1=j:=by omega
 have wu:j<ns.length:=by omega
 obtain ⟨zd,hz⟩:∃ y,ns[j]?=some y:=⟨_,aE wu⟩;have Tm:ns.getD j dH=zd:=by rw [List.getD_eq_getElem?_getD,hz];rfl
 obtain ⟨Z,Z1,Z2,Z3,W8⟩:=aa HA j zd hz;obtain ⟨zp,zc,zn,rfl,eZn⟩:=W8.r0.ew;have KZ:=ae (af W8.c0 BX);have RZ:=ae (W8.r0.below BX);have hpk:0<k:=by omega
 have aU9:(0:Int)<(k:Int):=by omega
 have Ph:(j:Int)<(m:Int):=by omega
 have Un:(0:Int)<=(j:Int):=by omega
 have wj:IntKind.i64.wrap (j:Int)=(j:Int):=IntWalk.i64_in _ (by omega);rw [By,Tm,show (k==0)=false by simp [vf],Bool.true_and,Bool.false_or,Bool.not_not] at eC;have HLE:Hid ((Op.bytesLess (aY nd.path).toList (aY zd.path).toList||(aY nd.path).toList==(aY zd.path).toList)=C):=eC;clear hz Tm wu W8 By vf eC;refine wp_region_noPanic ?_;refine wp_region_held_drew (S:=fun w'=>w'.cell? ⟨w.heap.size+1,0,none⟩=some (.slice pp pn pc)/\w'.cell? ⟨w.heap.size,5,none⟩=some (.slice (some ⟨b,o,none⟩) m d)/\Rd w' (.slice pp pn pc) nd.path/\w'.cell? ⟨b,o+j*8,none⟩=some (.slice zp zn zc)/\Rd w' (.slice zp zn zc) zd.path) (by kernel_rfl) (by exact ⟨NX.c0,IX.2.2.2.2.2,NX.r0,KZ,RZ⟩) (fun hS=>?_);refine dQ 0 1 hS ?_;refine ry [2] ?_;refine cn (fun KK hK=>?_) ?_;{
 refine fw (rY pp pc pn nd.path wX _ (by exact NX.r0) Fp GQ true EV) ?_;rintro r w2 ⟨rfl,aS⟩;refine ⟨_,rfl,?_⟩;have cL:Below X.heap.size X w2:=ai (Below.refl X.heap.size X).drew aS;refine bm hK (by exact ⟨af NX.c0 cL,af IX.2.2.2.2.2 cL,NX.r0.below cL,af KZ cL,RZ.below cL⟩) fun hS=>?_;clear hK KK;refine gp 3 4 5 6 hS ?_;refine dQ 7 8 hS ?_;refine tn 9 hS ?_;refine wpAnyH_take (i:=10) (oi:=_) (v:=?_) (by simp only [List.getElem?_toArray,List.getElem?_cons_succ,List.getElem?_cons_zero];rfl) (by kernel_rfl) (by kernel_rfl) (by kernel_rfl) (fun _ _ _ h=>h) (Or.inl ⟨by rfl,?_⟩) hS ?_;rotate_left;{(intro w' pO;(try dsimp only at pO);have hcv:=eG (aa wX) pO.2.2.1;go_simp;try with_reducible rfl)}
 simp only [Act.put,xa,xb,xc];refine gp 11 12 13 14 hS ?_;refine dQ 15 16 hS ?_;refine tn 17 hS ?_;refine wpAnyH_take (i:=18) (oi:=_) (v:=?_) (by simp only [List.getElem?_toArray,List.getElem?_cons_succ,List.getElem?_cons_zero];rfl) (by kernel_rfl) (by kernel_rfl) (by kernel_rfl) (fun _ _ _ h=>h) (Or.inl ⟨by rfl,?_⟩) hS ?_;rotate_left;{(intro w' pO;(try dsimp only at pO);have hcv:=eG (aa eZn) pO.2.2.2.2;go_simp;try with_reducible rfl)}
 simp only [Act.put,xa,xb,xc];refine wpAnyH_take (i:=19) (oi:=_) (v:=?_) (by simp only [List.getElem?_toArray,List.getElem?_cons_succ,List.getElem?_cons_zero];rfl) (by kernel_rfl) (by kernel_rfl) (by kernel_rfl) (fun _ _ _ h=>h) (Or.inl ⟨by rfl,?_⟩) hS ?_;rotate_left;{(intro w' pO;(try dsimp only at pO);have hle:=aa HLE;go_simp;try with_reducible rfl)}
 simp only [Act.put,xa,xb,xc];refine dQ 20 21 hS ?_;refine wpAnyH_done (by kernel_rfl) ?_ _;refine aX ?_;clear hS;go_wp2_with fail;go_meet;exact ⟨rfl,ai BX cL,IX.below cL,NX.below cL⟩};exact AllReadyH.nil})
 obtain ⟨rfl,uB,⟨i0,i1,i2,i3,i4,i5⟩,Ky⟩:=hcut;have qR:=ae Ky;obtain ⟨c0,c1,c2,c3,c4,c5,c6,c7,-,-,-,-,-⟩:=Ky;clear EV HA kM NX IX BX;cases C with
 | true=>
  have eF:B=false:=by rw [hB];rfl
  subst eF;clear hB eC;go_wp2;go_ret;exact ⟨rfl,uB⟩
 | false=>
  rw [Bool.not_false,Bool.true_and] at hB;have HB:=ae hB;clear hB eC;go_wp2_with fail;obtain ⟨pa,pb,pd,epp,Kw,ZG⟩:=qR.k0;simp only [Value.slice.injEq] at epp;obtain ⟨rfl,rfl,rfl⟩:=epp;have I6:Hid (mh wc w.heap.size e g x t (.slice p n c) (.slice (some ⟨b,o,none⟩) m d)):=⟨i0,i1,i2,i3,i4,i5⟩;have Xu:∀ (vs:Array Value) (w:World),(callFunc 88 vs).run prog w=.ok (.enter 88 vs) w:=fun vs w=>by kernel_rfl
  have Yq:=ae Xu;have iH:∀ (vs:Array Value) (w:World),(callFunc 87 vs).run prog w=.ok (.enter 87 vs) w:=fun vs w=>by kernel_rfl
  have Ca:=ae iH;have Yt:Hid (bQ (dF nd.path)/\∀ nd∈ns,bQ nd.path):=⟨oG Fp,fun nd h=>(aa fK nd h).1⟩;clear i0 i1 i2 i3 i4 i5 c0 c1 c2 c3 c4 c5 c6 c7 Xu iH;obtain ⟨C2,eC2⟩:=aN (dG ns (dF nd.path));have Yy:=ae eC2;obtain ⟨C3,Lu⟩:∃ C3,(!(C2&&decide (nd.value.length<=40)))=C3:=⟨_,rfl⟩;have js:B=(!C3&&((nd.owner==0||live ss nd.owner)&&(dZ ss nd.holders&&(dZ ss nd.watchers&&dh e g nd.mode nd.holders.length nd.aD nd.gen)))):=by rw [aa HB,eC2,<-Lu,Bool.not_not,Bool.and_assoc]
  rw [aa Np] at Lu;clear eC2 HB
  go_cut [44] (fun rv w'=>rv=.bool C3/\Below w.heap.size w w'/\mh w' w.heap.size e g x t (.slice p n c) (.slice (some ⟨b,o,none⟩) m d)/\kk w' (w.heap.size+1) 0 nd (.slice pp pn pc) (.slice Ja vn vc) (.slice hp hh hc) (.slice up un uc))
  case first =>(
 clear js;cases C2 with
 | false=>
  have El:C3=true:=by rw [<-Lu];rfl
  subst El;clear Lu;refine wp_region_noPanic ?_;refine wp_region_held_drew (S:=fun w'=>mh w' w.heap.size e g x t (.slice p n c) (.slice (some ⟨b,o,none⟩) m d)/\w'.cell? ⟨w.heap.size+1,0,none⟩=some (.slice pp pn pc)/\w'.cell? ⟨w.heap.size+1,1,none⟩=some (.slice Ja vn vc)) (by kernel_rfl) (by exact ⟨I6,qR.c0,qR.c1⟩) (fun hS=>?_);refine dQ 0 1 hS ?_;refine tn 2 hS ?_;refine ry [3] ?_;refine cn (fun KK hK=>?_) ?_;{refine iL (by rfl) 88 _ _ (by rfl) (.slice pp pn pc) (by rfl) (fun _=>aa Yq _ _) (gu pp pc pn nd.path wX _ (by exact qR.r0) GQ Kw ZG) ?_;rintro r w2 ⟨q',m',d',rfl,Nj,Xi,TC,aS⟩;refine ⟨_,rfl,?_⟩;have cL:Below wc.heap.size wc w2:=ai (Below.refl wc.heap.size wc).drew aS;refine bm hK (by exact ⟨I6.below cL,af qR.c0 cL,af qR.c1 cL⟩) fun hS=>?_;clear hK KK;refine aH 4 fun KK hK=>?_;refine jT (by rfl) 87 _ _ _ (by rfl) (cK e g x t (.slice p n c) (.slice (some ⟨b,o,none⟩) m d)) (.slice q' m' d') (by rfl) (by rfl) (fun _=>aa Ca _ _) (fH e g x t _ q' d m d' m' _ ns (dF nd.path) em Nj _ (aa HR _ (ai uB cL)).2 TC hm (by omega) Yt false Yy) ?_;rintro r w3 ⟨rfl,dA⟩;refine ⟨_,rfl,?_⟩;have fO:Below wc.heap.size wc w3:=ai cL dA;refine bm hK (by exact ⟨I6.below fO,af qR.c0 fO,af qR.c1 fO⟩) fun hS=>?_;clear hK KK;refine dQ 5 6 hS ?_;refine sn 7 hS ?_;refine sn 8 hS ?_;refine sn 9 hS ?_;refine sn 10 hS ?_;refine tn 11 hS ?_;refine wpAnyH_done (by kernel_rfl) ?_ _;refine aX ?_;clear hS;go_wp2_with fail;go_meet;exact ⟨rfl,ai uB fO,I6.below fO,qR.below fO⟩};exact AllReadyH.nil
 | true=>
  by_cases h40:vn<=40;{
 have El:C3=false:=by rw [<-Lu];simp [h40]
 subst El;have ag0:¬ (40:Int)<(vn:Int):=by omega
 clear Lu;refine wp_region_noPanic ?_;refine wp_region_held_drew (S:=fun w'=>mh w' w.heap.size e g x t (.slice p n c) (.slice (some ⟨b,o,none⟩) m d)/\w'.cell? ⟨w.heap.size+1,0,none⟩=some (.slice pp pn pc)/\w'.cell? ⟨w.heap.size+1,1,none⟩=some (.slice Ja vn vc)) (by kernel_rfl) (by exact ⟨I6,qR.c0,qR.c1⟩) (fun hS=>?_);refine dQ 0 1 hS ?_;refine tn 2 hS ?_;refine aH 3 fun KK hK=>?_;refine iL (by rfl) 88 _ _ (by rfl) (.slice pp pn pc) (by rfl) (fun _=>aa Yq _ _) (gu pp pc pn nd.path wX _ (by exact qR.r0) GQ Kw ZG) ?_;rintro r w2 ⟨q',m',d',rfl,Nj,Xi,TC,aS⟩;refine ⟨_,rfl,?_⟩;have cL:Below wc.heap.size wc w2:=ai (Below.refl wc.heap.size wc).drew aS;refine bm hK (by exact ⟨I6.below cL,af qR.c0 cL,af qR.c1 cL⟩) fun hS=>?_;clear hK KK;refine aH 4 fun KK hK=>?_;refine jT (by rfl) 87 _ _ _ (by rfl) (cK e g x t (.slice p n c) (.slice (some ⟨b,o,none⟩) m d)) (.slice q' m' d') (by rfl) (by rfl) (fun _=>aa Ca _ _) (fH e g x t _ q' d m d' m' _ ns (dF nd.path) em Nj _ (aa HR _ (ai uB cL)).2 TC hm (by omega) Yt true Yy) ?_;rintro r w3 ⟨rfl,dA⟩;refine ⟨_,rfl,?_⟩;have fO:Below wc.heap.size wc w3:=ai cL dA;refine bm hK (by exact ⟨I6.below fO,af qR.c0 fO,af qR.c1 fO⟩) fun hS=>?_;clear hK KK;refine gp 5 6 7 8 hS ?_;refine dQ 9 10 hS ?_;refine tn 11 hS ?_;refine wpAnyH_done (by kernel_rfl) ?_ _;refine aX ?_;clear hS;go_wp2_with fail;go_meet;exact ⟨rfl,ai uB fO,I6.below fO,qR.below fO⟩};{
 have El:C3=true:=by rw [<-Lu];simp [h40]
 subst El;have ag0:(40:Int)<(vn:Int):=by omega
 clear Lu;refine wp_region_noPanic ?_;refine wp_region_held_drew (S:=fun w'=>mh w' w.heap.size e g x t (.slice p n c) (.slice (some ⟨b,o,none⟩) m d)/\w'.cell? ⟨w.heap.size+1,0,none⟩=some (.slice pp pn pc)/\w'.cell? ⟨w.heap.size+1,1,none⟩=some (.slice Ja vn vc)) (by kernel_rfl) (by exact ⟨I6,qR.c0,qR.c1⟩) (fun hS=>?_);refine dQ 0 1 hS ?_;refine tn 2 hS ?_;refine ry [3] ?_;refine cn (fun KK hK=>?_) ?_;{refine iL (by rfl) 88 _ _ (by rfl) (.slice pp pn pc) (by rfl) (fun _=>aa Yq _ _) (gu pp pc pn nd.path wX _ (by exact qR.r0) GQ Kw ZG) ?_;rintro r w2 ⟨q',m',d',rfl,Nj,Xi,TC,aS⟩;refine ⟨_,rfl,?_⟩;have cL:Below wc.heap.size wc w2:=ai (Below.refl wc.heap.size wc).drew aS;refine bm hK (by exact ⟨I6.below cL,af qR.c0 cL,af qR.c1 cL⟩) fun hS=>?_;clear hK KK;refine aH 4 fun KK hK=>?_;refine jT (by rfl) 87 _ _ _ (by rfl) (cK e g x t (.slice p n c) (.slice (some ⟨b,o,none⟩) m d)) (.slice q' m' d') (by rfl) (by rfl) (fun _=>aa Ca _ _) (fH e g x t _ q' d m d' m' _ ns (dF nd.path) em Nj _ (aa HR _ (ai uB cL)).2 TC hm (by omega) Yt true Yy) ?_;rintro r w3 ⟨rfl,dA⟩;refine ⟨_,rfl,?_⟩;have fO:Below wc.heap.size wc w3:=ai cL dA;refine bm hK (by exact ⟨I6.below fO,af qR.c0 fO,af qR.c1 fO⟩) fun hS=>?_;clear hK KK;refine gp 5 6 7 8 hS ?_;refine dQ 9 10 hS ?_;refine tn 11 hS ?_;refine wpAnyH_done (by kernel_rfl) ?_ _;refine aX ?_;clear hS;go_wp2_with fail;go_meet;exact ⟨rfl,ai uB fO,I6.below fO,qR.below fO⟩};exact AllReadyH.nil})
  obtain ⟨rfl,UD,⟨i0,i1,i2,i3,i4,i5⟩,TM⟩:=hcut;have mj:=ae TM;obtain ⟨c0,c1,c2,c3,c4,c5,c6,c7,-,-,-,-,-⟩:=TM;clear I6 qR Yq Ca Yt Yy Lu;cases C3 with
  | true=>
   have eF:B=false:=by rw [js];rfl
   subst eF;clear js;go_wp2;go_ret;exact ⟨rfl,UD⟩
  | false=>
   rw [Bool.not_false,Bool.true_and] at js;obtain ⟨ow,eo⟩:=aN nd.owner;rw [eo] at js c2;clear eo;by_cases ho:ow=0;{
 subst ho;have jy:Hid (B=(dZ ss nd.holders&&(dZ ss nd.watchers&&dh e g nd.mode nd.holders.length nd.aD nd.gen))):=js;clear js;obtain ⟨T1,Qo⟩:=aN (dZ ss nd.holders);obtain ⟨T2,Ir⟩:=aN (dZ ss nd.watchers);obtain ⟨T3,Iq⟩:=aN (dh e g nd.mode hh nd.aD nd.gen);have ET1:=ae Qo;have ET2:=ae Ir;have ET3:=ae Iq;have zK:Hid (B=(T1&&(T2&&T3))):=by show _=_;rw [aa jy,Qo,Ir,aa BF,Iq]
 clear Qo Ir Iq jy;go_wp2_with fail;refine (jd e g x t p hp c n hc hh _ ss nd.holders en BF _ (aa HR _ UD).1 mj.r4 hn Fj T1 ET1).mono ?_;rintro r wa ⟨rfl,lK⟩;have Ba:=ai UD lK;have HNa:=ae (mj.below lK);cases T1 with
 | false=>
  have eF:B=false:=by rw [aa zK];rfl
  subst eF;clear zK;go_wp2;go_ret;exact ⟨rfl,Ba⟩
 | true=>
  have a0:=af i0 lK;have a1:=af i1 lK;have a2:=af i2 lK;have a3:=af i3 lK;have a4:=af i4 lK;have a5:=af i5 lK;have d0:=af c0 lK;have d1:=af c1 lK;have d2:=af c2 lK;have d3:=af c3 lK;have d4:=af c4 lK;have d5:=af c5 lK;have d6:=af c6 lK;have d7:=af c7 lK;clear i0 i1 i2 i3 i4 i5 c0 c1 c2 c3 c4 c5 c6 c7 lK;go_wp2_with fail;refine (jd e g x t p up c n uc un _ ss nd.watchers en Ej _ (aa HR _ Ba).1 HNa.r7 hn Kt T2 ET2).mono ?_;rintro r wb ⟨rfl,iW⟩;have Bb:=ai Ba iW;cases T2 with
  | false=>
   have eF:B=false:=by rw [aa zK];rfl
   subst eF;clear zK;go_wp2;go_ret;exact ⟨rfl,Bb⟩
  | true=>
   have eT:B=T3:=by rw [aa zK];rfl
   subst eT;have f0:=af a0 iW;have f1:=af a1 iW;have f2:=af a2 iW;have f3:=af a3 iW;have f4:=af a4 iW;have f5:=af a5 iW;have g0:=af d0 iW;have g1:=af d1 iW;have g2:=af d2 iW;have g3:=af d3 iW;have g4:=af d4 iW;have g5:=af d5 iW;have g6:=af d6 iW;have g7:=af d7 iW;clear a0 a1 a2 a3 a4 a5 d0 d1 d2 d3 d4 d5 d6 d7 iW zK;go_wp2_with fail;refine (oR e g x t _ nd.mode nd.aD nd.gen _ _ _ _ _ hp hc hh _ Fj B ET3).mono ?_;rintro r wd ⟨rfl,Hm⟩;have Bd:=ai Bb Hm;clear Hm f0 f1 f2 f3 f4 f5 g0 g1 g2 g3 g4 g5 g6 g7;go_wp2;go_ret;exact ⟨rfl,Bd⟩};{
 have hod:(ow==0)=false:=by simp [ho]
 have aV2:(ow != 0)=true:=by simp [ho]
 rw [hod,Bool.false_or] at js;obtain ⟨L,eL⟩:=aN (live ss ow);have EL:Hid ((ss.any fun s=>s.1==ow)=L):=eL;rw [eL] at js;have jy:=ae js;clear js eL;go_wp2_with fail;refine (iO e g x t p c n _ ss en _ (aa HR _ UD).1 hn ow L EL).mono ?_;rintro r w2 ⟨rfl,aS⟩;have b2:=ai UD aS;cases L with
 | false=>
  have eF:B=false:=by rw [aa jy];rfl
  subst eF;clear jy;go_wp2;go_ret;exact ⟨rfl,b2⟩
 | true=>
  have jy:Hid (B=(dZ ss nd.holders&&(dZ ss nd.watchers&&dh e g nd.mode nd.holders.length nd.aD nd.gen))):=aa jy;have NC:=ae (mj.below aS);replace i0:=af i0 aS;replace i1:=af i1 aS;replace i2:=af i2 aS;replace i3:=af i3 aS;replace i4:=af i4 aS;replace i5:=af i5 aS;replace c0:=af c0 aS;replace c1:=af c1 aS;replace c2:=af c2 aS;replace c3:=af c3 aS;replace c4:=af c4 aS;replace c5:=af c5 aS;replace c6:=af c6 aS;replace c7:=af c7 aS;clear aS;obtain ⟨T1,Qo⟩:=aN (dZ ss nd.holders);obtain ⟨T2,Ir⟩:=aN (dZ ss nd.watchers);obtain ⟨T3,Iq⟩:=aN (dh e g nd.mode hh nd.aD nd.gen);have ET1:=ae Qo;have ET2:=ae Ir;have ET3:=ae Iq;have zK:Hid (B=(T1&&(T2&&T3))):=by show _=_;rw [aa jy,Qo,Ir,aa BF,Iq]
  clear Qo Ir Iq jy;go_wp2_with fail;refine (jd e g x t p hp c n hc hh _ ss nd.holders en BF _ (aa HR _ b2).1 NC.r4 hn Fj T1 ET1).mono ?_;rintro r wa ⟨rfl,lK⟩;have Ba:=ai b2 lK;have HNa:=ae (NC.below lK);cases T1 with
  | false=>
   have eF:B=false:=by rw [aa zK];rfl
   subst eF;clear zK;go_wp2;go_ret;exact ⟨rfl,Ba⟩
  | true=>
   have a0:=af i0 lK;have a1:=af i1 lK;have a2:=af i2 lK;have a3:=af i3 lK;have a4:=af i4 lK;have a5:=af i5 lK;have d0:=af c0 lK;have d1:=af c1 lK;have d2:=af c2 lK;have d3:=af c3 lK;have d4:=af c4 lK;have d5:=af c5 lK;have d6:=af c6 lK;have d7:=af c7 lK;clear i0 i1 i2 i3 i4 i5 c0 c1 c2 c3 c4 c5 c6 c7 lK;go_wp2_with fail;refine (jd e g x t p up c n uc un _ ss nd.watchers en Ej _ (aa HR _ Ba).1 HNa.r7 hn Kt T2 ET2).mono ?_;rintro r wb ⟨rfl,iW⟩;have Bb:=ai Ba iW;cases T2 with
   | false=>
    have eF:B=false:=by rw [aa zK];rfl
    subst eF;clear zK;go_wp2;go_ret;exact ⟨rfl,Bb⟩
   | true=>
    have eT:B=T3:=by rw [aa zK];rfl
    subst eT;have f0:=af a0 iW;have f1:=af a1 iW;have f2:=af a2 iW;have f3:=af a3 iW;have f4:=af a4 iW;have f5:=af a5 iW;have g0:=af d0 iW;have g1:=af d1 iW;have g2:=af d2 iW;have g3:=af d3 iW;have g4:=af d4 iW;have g5:=af d5 iW;have g6:=af d6 iW;have g7:=af d7 iW;clear a0 a1 a2 a3 a4 a5 d0 d1 d2 d3 d4 d5 d6 d7 iW zK;go_wp2_with fail;refine (oR e g x t _ nd.mode nd.aD nd.gen _ _ _ _ _ hp hc hh _ Fj B ET3).mono ?_;rintro r wd ⟨rfl,Hm⟩;have Bd:=ai Bb Hm;clear Hm f0 f1 f2 f3 f4 f5 g0 g1 g2 g3 g4 g5 g6 g7;go_wp2;go_ret;exact ⟨rfl,Bd⟩}
end Go.Proofs.YtcfcafeciggjeaaGreatDoor
