import Derived.Test.YtmfjiolopcbcmaaGreatDoorK8
namespace Go.Proofs.YtmfjiolopcbcmaaGreatDoor
set_option maxHeartbeats 1600000
set_option linter.unusedVariables false
set_option linter.unusedSimpArgs false
set_option maxRecDepth 100000
open Go.ChangeShapes Go.WideShapes Go.ChangeAt Go.RowKit Go.Proofs.Tryz
variable {l:List Int}
def leB (l m:List Int):Bool:=Op.bytesLess (aB l).toList (aB m).toList||(aB l).toList==(aB m).toList
def dQ:aA:=⟨[],[],0,0,[],0,0,[]⟩
def ja (e g:Int) (ss:List aR) (ns:List aA) (k:Nat):Bool:=
 let nd:=ns.getD k dQ
 (vp nd.path&&(k==0||!leB nd.path (ns.getD (k-1) dQ).path))&&(dy ns (de nd.path)&&(decide (nd.value.length<=40)&&((nd.owner==0||live ss nd.owner)&&(fV ss nd.holders&&(fV ss nd.watchers&&fI e g nd.mode nd.holders.length nd.aC nd.gen)))))
theorem ld (h:cT l):cT (de l):=by
 unfold de;split;{intro x hx;simp at hx;omega};{exact fun x hx=>h x (List.mem_of_mem_take hx)}
theorem iA.ed {w:World} {v:Value} (h:iA w v l):∃ p c n,v=.slice p n c/\Hid (l.length=n):=by
 obtain ⟨p,c,rfl,-⟩:=h;exact ⟨p,c,_,rfl,(by show _=_;rfl)⟩
theorem zt (e g x t:Int) (p q:Option Addr) (c n d m k:Nat) (ss:List aR) (ns:List aA) (en:Hid (ss.length=n)) (em:Hid (ns.length=m)) (w:World) (h:nR w (.slice p n c) ss) (hN:jB w (.slice q m d) ns) (hn:n<=1048576) (hm:m<=1048576) (hk:k<m)
  (du:Hid (∀ nd∈ns,cT nd.path/\nd.path.length<=1048576/\nd.value.length<=1048576/\nd.holders.length<=1048576/\nd.watchers.length<=1048576)) (B:Bool) (eB:Hid (ja e g ss ns k=B)) :
  Calls prog 51 #[cL e g x t (.slice p n c) (.slice q m d),.int .i64 k] w fun r w'=>r=.returned (.bool B)/\Below w.heap.size w w':=by
 have HR:=ae fun (w':World) (hb:Below w.heap.size w w')=>ag (h.below hb) (hN.below hb);have bH:k<ns.length:=by rw [aa em];exact hk
 obtain ⟨nd,hy⟩:∃ y,ns[k]?=some y:=⟨_,aH bH⟩;have xk:ns.getD k dQ=nd:=by rw [List.getD_eq_getElem?_getD,hy];rfl
 obtain ⟨b,o,rfl,hA⟩:=hN.at (by omega);obtain ⟨P,V,H,U,bf⟩:=hA k nd hy;obtain ⟨wN,iD,NN,Jq,Su⟩:=aa du _ (aL hy);obtain ⟨pp,pc,pn,rfl,uj⟩:=bf.r0.ed;obtain ⟨Nu,vc,vn,rfl,Ir⟩:=bf.r1.ed;obtain ⟨hp,hc,hh,rfl,yr⟩:=bf.r4.ed;obtain ⟨up,uc,un,rfl,AZ⟩:=bf.r7.ed;have Ky:pn<=1048576:=by rw [<-aa uj];exact iD
 have hvn:vn<=1048576:=by rw [<-aa Ir];exact NN
 have Ji:hh<=1048576:=by rw [<-aa yr];exact Jq
 have PF:un<=1048576:=by rw [<-aa AZ];exact Su
 have R8:(k:Int)<(m:Int):=by omega
 have aD2:(0:Int)<=(k:Int):=by omega
 have b1:Below w.heap.size w (w.alloc (.cells #[.int .u64 e,.int .u64 g,.int .u64 x,.int .i64 t,.slice p n c,.slice (some ⟨b,o,none⟩) m d] 35)):=ar.alloc ay _;have aC2:=bf.below b1;obtain ⟨c0,c1,c2,c3,c4,c5,c6,c7,-,-,-,-,-⟩:=aC2;have HYD:=ae xk;have Nh:=ae bf;have Ju:=ae wN;have HA:=ae hA;clear bf hA xk wN iD NN Jq Su hN h;go_enter func51,ntmps51;go_wp2_with fail;obtain ⟨X,hX⟩:=ax ((w.alloc (.cells #[.int .u64 e,.int .u64 g,.int .u64 x,.int .i64 t,.slice p n c,.slice (some ⟨b,o,none⟩) m d] 35)).alloc (.cells #[.slice pp pn pc,.slice Nu vn vc,.int .u64 nd.owner,.int .i64 nd.mode,.slice hp hh hc,.int .u64 nd.aC,.int .u64 nd.gen,.slice up un uc] 103));have bX:Below w.heap.size w X:=by rw [hX];exact b1.alloc (by simp) _
 have iX:js X w.heap.size e g x t (.slice p n c) (.slice (some ⟨b,o,none⟩) m d):=by rw [hX];simp [js]
 have nX:mc X (w.heap.size+1) 0 nd (.slice pp pn pc) (.slice Nu vn vc) (.slice hp hh hc) (.slice up un uc):=
  ⟨by rw [hX];simp,by rw [hX];simp,by rw [hX];simp,by rw [hX];simp,by rw [hX];simp,by rw [hX];simp,by rw [hX];simp,by rw [hX];simp,Nh.r0.below bX,Nh.r1.below bX,Nh.r4.below bX,Nh.r7.below bX,Nh.k0⟩
 rw [<-hX];have BX:=ae bX;have IX:=ae iX;have NX:=ae nX;clear hX b1 c0 c1 c2 c3 c4 c5 c6 c7 bX iX nX;obtain ⟨V1,eV⟩:=aZ (vp nd.path);have EV:=ae eV;clear eV;obtain ⟨C,eC⟩:∃ C,(!(V1&&(k==0||!leB nd.path (ns.getD (k-1) dQ).path)))=C:=⟨_,rfl⟩;have hB:B=(!C&&(dy ns (de nd.path)&&(decide (nd.value.length<=40)&&((nd.owner==0||live ss nd.owner)&&(fV ss nd.holders&&(fV ss nd.watchers&&fI e g nd.mode nd.holders.length nd.aC nd.gen)))))):=by rw [<-aa eB,ja,aa HYD,<-eC,Bool.not_not,show vp nd.path=V1 from aa EV]
 go_cut [32] (fun rv wc=>rv=.bool C/\Below w.heap.size w wc/\js wc w.heap.size e g x t (.slice p n c) (.slice (some ⟨b,o,none⟩) m d)/\mc wc (w.heap.size+1) 0 nd (.slice pp pn pc) (.slice Nu vn vc) (.slice hp hh hc) (.slice up un uc))
 case first =>(
 cases V1 with
 | false=>
  have It:C=true:=by rw [<-eC];rfl
  subst It;clear eC;refine wp_region_noPanic ?_;refine wp_region_held_drew (S:=fun w'=>w'.cell? ⟨w.heap.size+1,0,none⟩=some (.slice pp pn pc)/\w'.cell? ⟨w.heap.size,5,none⟩=some (.slice (some ⟨b,o,none⟩) m d)/\Rd w' (.slice pp pn pc) nd.path) (by kernel_rfl) (by exact ⟨NX.c0,IX.2.2.2.2.2,NX.r0⟩) (fun hS=>?_);refine fq 0 1 hS ?_;refine ry [2] ?_;refine cn (fun KK hK=>?_) ?_;{refine iG (uD pp pc pn nd.path uj _ (by exact NX.r0) Ju Ky false EV) ?_;rintro r w2 ⟨rfl,aG⟩;refine ⟨_,rfl,?_⟩;have bu:Below X.heap.size X w2:=ai (Below.refl X.heap.size X).drew aG;refine bM hK (by exact ⟨af NX.c0 bu,af IX.2.2.2.2.2 bu,NX.r0.below bu⟩) fun hS=>?_;clear hK KK;refine fq 3 4 hS ?_;refine sn 5 hS ?_;refine sn 6 hS ?_;refine sn 7 hS ?_;refine sn 8 hS ?_;refine sn 9 hS ?_;refine sn 10 hS ?_;refine sn 11 hS ?_;refine sn 12 hS ?_;refine sn 13 hS ?_;refine sn 14 hS ?_;refine sn 15 hS ?_;refine sn 16 hS ?_;refine sn 17 hS ?_;refine sn 18 hS ?_;refine sn 19 hS ?_;refine sn 20 hS ?_;refine tn 21 hS ?_;refine wpAnyH_done (by kernel_rfl) ?_ _;refine bc ?_;clear hS;go_wp2_with fail;go_meet;exact ⟨rfl,ai BX bu,IX.below bu,NX.below bu⟩};exact AllReadyH.nil
 | true=>
  by_cases xX:k=0;{
 have It:C=false:=by rw [<-eC,xX];rfl
 subst It;have UC:¬ 0<k:=by omega
 have bA1:¬ (0:Int)<(k:Int):=by omega
 clear eC xX;refine wp_region_noPanic ?_;refine wp_region_held_drew (S:=fun w'=>w'.cell? ⟨w.heap.size+1,0,none⟩=some (.slice pp pn pc)/\w'.cell? ⟨w.heap.size,5,none⟩=some (.slice (some ⟨b,o,none⟩) m d)/\Rd w' (.slice pp pn pc) nd.path) (by kernel_rfl) (by exact ⟨NX.c0,IX.2.2.2.2.2,NX.r0⟩) (fun hS=>?_);refine fq 0 1 hS ?_;refine bR 2 fun KK hK=>?_;refine iG (uD pp pc pn nd.path uj _ (by exact NX.r0) Ju Ky true EV) ?_;rintro r w2 ⟨rfl,aG⟩;refine ⟨_,rfl,?_⟩;have bu:Below X.heap.size X w2:=ai (Below.refl X.heap.size X).drew aG;refine bM hK (by exact ⟨af NX.c0 bu,af IX.2.2.2.2.2 bu,NX.r0.below bu⟩) fun hS=>?_;clear hK KK;refine gD 3 4 5 6 hS ?_;refine tn 7 hS ?_;refine sn 8 hS ?_;refine sn 9 hS ?_;refine sn 10 hS ?_;refine sn 11 hS ?_;refine sn 12 hS ?_;refine sn 13 hS ?_;refine sn 14 hS ?_;refine sn 15 hS ?_;refine sn 16 hS ?_;refine sn 17 hS ?_;refine sn 18 hS ?_;refine sn 19 hS ?_;refine fq 20 21 hS ?_;refine wpAnyH_done (by kernel_rfl) ?_ _;refine bc ?_;clear hS;go_wp2_with fail;go_meet;exact ⟨rfl,ai BX bu,IX.below bu,NX.below bu⟩};{
 obtain ⟨j,ej⟩:∃ j:Nat,(k:Int)-1=(j:Int):=⟨k-1,by omega⟩;have AY:k-1=j:=by omega
 have tZ:j<ns.length:=by omega
 obtain ⟨zd,hz⟩:∃ y,ns[j]?=some y:=⟨_,aH tZ⟩;have Yg:ns.getD j dQ=zd:=by rw [List.getD_eq_getElem?_getD,hz];rfl
 obtain ⟨Z,Z1,Z2,Z3,hzn⟩:=aa HA j zd hz;obtain ⟨zp,zc,zn,rfl,eZn⟩:=hzn.r0.ed;have KZ:=ae (af hzn.c0 BX);have RZ:=ae (hzn.r0.below BX);have hpk:0<k:=by omega
 have bA0:(0:Int)<(k:Int):=by omega
 have Sa:(j:Int)<(m:Int):=by omega
 have YR:(0:Int)<=(j:Int):=by omega
 have wj:IntKind.i64.wrap (j:Int)=(j:Int):=IntWalk.i64_in _ (by omega);rw [AY,Yg,show (k==0)=false by simp [xX],Bool.true_and,Bool.false_or,Bool.not_not] at eC;have HLE:Hid ((Op.bytesLess (aB nd.path).toList (aB zd.path).toList||(aB nd.path).toList==(aB zd.path).toList)=C):=eC;clear hz Yg tZ hzn AY xX eC;refine wp_region_noPanic ?_;refine wp_region_held_drew (S:=fun w'=>w'.cell? ⟨w.heap.size+1,0,none⟩=some (.slice pp pn pc)/\w'.cell? ⟨w.heap.size,5,none⟩=some (.slice (some ⟨b,o,none⟩) m d)/\Rd w' (.slice pp pn pc) nd.path/\w'.cell? ⟨b,o+j*8,none⟩=some (.slice zp zn zc)/\Rd w' (.slice zp zn zc) zd.path) (by kernel_rfl) (by exact ⟨NX.c0,IX.2.2.2.2.2,NX.r0,KZ,RZ⟩) (fun hS=>?_);refine fq 0 1 hS ?_;refine ry [2] ?_;refine cn (fun KK hK=>?_) ?_;{
 refine iG (uD pp pc pn nd.path uj _ (by exact NX.r0) Ju Ky true EV) ?_;rintro r w2 ⟨rfl,aG⟩;refine ⟨_,rfl,?_⟩;have bu:Below X.heap.size X w2:=ai (Below.refl X.heap.size X).drew aG;refine bM hK (by exact ⟨af NX.c0 bu,af IX.2.2.2.2.2 bu,NX.r0.below bu,af KZ bu,RZ.below bu⟩) fun hS=>?_;clear hK KK;refine gD 3 4 5 6 hS ?_;refine fq 7 8 hS ?_;refine tn 9 hS ?_;refine wpAnyH_take (i:=10) (oi:=_) (v:=?_) (by simp only [List.getElem?_toArray,List.getElem?_cons_succ,List.getElem?_cons_zero];rfl) (by kernel_rfl) (by kernel_rfl) (by kernel_rfl) (fun _ _ _ h=>h) (Or.inl ⟨by rfl,?_⟩) hS ?_;rotate_left;{(intro w' sS;(try dsimp only at sS);have hcv:=fU (aa uj) sS.2.2.1;go_simp;try with_reducible rfl)}
 simp only [Act.put,xa,xb,xc];refine gD 11 12 13 14 hS ?_;refine fq 15 16 hS ?_;refine tn 17 hS ?_;refine wpAnyH_take (i:=18) (oi:=_) (v:=?_) (by simp only [List.getElem?_toArray,List.getElem?_cons_succ,List.getElem?_cons_zero];rfl) (by kernel_rfl) (by kernel_rfl) (by kernel_rfl) (fun _ _ _ h=>h) (Or.inl ⟨by rfl,?_⟩) hS ?_;rotate_left;{(intro w' sS;(try dsimp only at sS);have hcv:=fU (aa eZn) sS.2.2.2.2;go_simp;try with_reducible rfl)}
 simp only [Act.put,xa,xb,xc];refine wpAnyH_take (i:=19) (oi:=_) (v:=?_) (by simp only [List.getElem?_toArray,List.getElem?_cons_succ,List.getElem?_cons_zero];rfl) (by kernel_rfl) (by kernel_rfl) (by kernel_rfl) (fun _ _ _ h=>h) (Or.inl ⟨by rfl,?_⟩) hS ?_;rotate_left;{(intro w' sS;(try dsimp only at sS);have hle:=aa HLE;go_simp;try with_reducible rfl)}
 simp only [Act.put,xa,xb,xc];refine fq 20 21 hS ?_;refine wpAnyH_done (by kernel_rfl) ?_ _;refine bc ?_;clear hS;go_wp2_with fail;go_meet;exact ⟨rfl,ai BX bu,IX.below bu,NX.below bu⟩};exact AllReadyH.nil})
 obtain ⟨rfl,xn,⟨i0,i1,i2,i3,i4,i5⟩,RN⟩:=hcut;have td:=ae RN;obtain ⟨c0,c1,c2,c3,c4,c5,c6,c7,-,-,-,-,-⟩:=RN;clear EV HA Nh NX IX BX;cases C with
 | true=>
  have eF:B=false:=by rw [hB];rfl
  subst eF;clear hB eC;go_wp2;go_ret;exact ⟨rfl,xn⟩
 | false=>
  rw [Bool.not_false,Bool.true_and] at hB;have HB:=ae hB;clear hB eC;go_wp2_with fail;obtain ⟨pa,pb,pd,epp,PH,hpm⟩:=td.k0;simp only [Value.slice.injEq] at epp;obtain ⟨rfl,rfl,rfl⟩:=epp;have I6:Hid (js wc w.heap.size e g x t (.slice p n c) (.slice (some ⟨b,o,none⟩) m d)):=⟨i0,i1,i2,i3,i4,i5⟩;have hcp:∀ (vs:Array Value) (w:World),(callFunc 93 vs).run prog w=.ok (.enter 93 vs) w:=fun vs w=>by kernel_rfl
  have HCP:=ae hcp;have jA:∀ (vs:Array Value) (w:World),(callFunc 92 vs).run prog w=.ok (.enter 92 vs) w:=fun vs w=>by kernel_rfl
  have tK:=ae jA;have HBN:Hid (cT (de nd.path)/\∀ nd∈ns,cT nd.path):=⟨ld Ju,fun nd h=>(aa du nd h).1⟩;clear i0 i1 i2 i3 i4 i5 c0 c1 c2 c3 c4 c5 c6 c7 hcp jA;obtain ⟨C2,eC2⟩:=aZ (dy ns (de nd.path));have EC2:=ae eC2;obtain ⟨C3,QH⟩:∃ C3,(!(C2&&decide (nd.value.length<=40)))=C3:=⟨_,rfl⟩;have iD:B=(!C3&&((nd.owner==0||live ss nd.owner)&&(fV ss nd.holders&&(fV ss nd.watchers&&fI e g nd.mode nd.holders.length nd.aC nd.gen)))):=by rw [aa HB,eC2,<-QH,Bool.not_not,Bool.and_assoc]
  rw [aa Ir] at QH;clear eC2 HB
  go_cut [44] (fun rv w'=>rv=.bool C3/\Below w.heap.size w w'/\js w' w.heap.size e g x t (.slice p n c) (.slice (some ⟨b,o,none⟩) m d)/\mc w' (w.heap.size+1) 0 nd (.slice pp pn pc) (.slice Nu vn vc) (.slice hp hh hc) (.slice up un uc))
  case first =>(
 clear iD;cases C2 with
 | false=>
  have It:C3=true:=by rw [<-QH];rfl
  subst It;clear QH;refine wp_region_noPanic ?_;refine wp_region_held_drew (S:=fun w'=>js w' w.heap.size e g x t (.slice p n c) (.slice (some ⟨b,o,none⟩) m d)/\w'.cell? ⟨w.heap.size+1,0,none⟩=some (.slice pp pn pc)/\w'.cell? ⟨w.heap.size+1,1,none⟩=some (.slice Nu vn vc)) (by kernel_rfl) (by exact ⟨I6,td.c0,td.c1⟩) (fun hS=>?_);refine fq 0 1 hS ?_;refine tn 2 hS ?_;refine ry [3] ?_;refine cn (fun KK hK=>?_) ?_;{refine dw (by rfl) 93 _ _ (by rfl) (.slice pp pn pc) (by rfl) (fun _=>aa HCP _ _) (ia pp pc pn nd.path uj _ (by exact td.r0) Ky PH hpm) ?_;rintro r w2 ⟨q',m',d',rfl,Ap,R6,Yu,aG⟩;refine ⟨_,rfl,?_⟩;have bu:Below wc.heap.size wc w2:=ai (Below.refl wc.heap.size wc).drew aG;refine bM hK (by exact ⟨I6.below bu,af td.c0 bu,af td.c1 bu⟩) fun hS=>?_;clear hK KK;refine bR 4 fun KK hK=>?_;refine fT (by rfl) 92 _ _ _ (by rfl) (cL e g x t (.slice p n c) (.slice (some ⟨b,o,none⟩) m d)) (.slice q' m' d') (by rfl) (by rfl) (fun _=>aa tK _ _) (gG e g x t _ q' d m d' m' _ ns (de nd.path) em Ap _ (aa HR _ (ai xn bu)).2 Yu hm (by omega) HBN false EC2) ?_;rintro r w3 ⟨rfl,cX⟩;refine ⟨_,rfl,?_⟩;have fk:Below wc.heap.size wc w3:=ai bu cX;refine bM hK (by exact ⟨I6.below fk,af td.c0 fk,af td.c1 fk⟩) fun hS=>?_;clear hK KK;refine fq 5 6 hS ?_;refine sn 7 hS ?_;refine sn 8 hS ?_;refine sn 9 hS ?_;refine sn 10 hS ?_;refine tn 11 hS ?_;refine wpAnyH_done (by kernel_rfl) ?_ _;refine bc ?_;clear hS;go_wp2_with fail;go_meet;exact ⟨rfl,ai xn fk,I6.below fk,td.below fk⟩};exact AllReadyH.nil
 | true=>
  by_cases h40:vn<=40;{
 have It:C3=false:=by rw [<-QH];simp [h40]
 subst It;have aJ5:¬ (40:Int)<(vn:Int):=by omega
 clear QH;refine wp_region_noPanic ?_;refine wp_region_held_drew (S:=fun w'=>js w' w.heap.size e g x t (.slice p n c) (.slice (some ⟨b,o,none⟩) m d)/\w'.cell? ⟨w.heap.size+1,0,none⟩=some (.slice pp pn pc)/\w'.cell? ⟨w.heap.size+1,1,none⟩=some (.slice Nu vn vc)) (by kernel_rfl) (by exact ⟨I6,td.c0,td.c1⟩) (fun hS=>?_);refine fq 0 1 hS ?_;refine tn 2 hS ?_;refine bR 3 fun KK hK=>?_;refine dw (by rfl) 93 _ _ (by rfl) (.slice pp pn pc) (by rfl) (fun _=>aa HCP _ _) (ia pp pc pn nd.path uj _ (by exact td.r0) Ky PH hpm) ?_;rintro r w2 ⟨q',m',d',rfl,Ap,R6,Yu,aG⟩;refine ⟨_,rfl,?_⟩;have bu:Below wc.heap.size wc w2:=ai (Below.refl wc.heap.size wc).drew aG;refine bM hK (by exact ⟨I6.below bu,af td.c0 bu,af td.c1 bu⟩) fun hS=>?_;clear hK KK;refine bR 4 fun KK hK=>?_;refine fT (by rfl) 92 _ _ _ (by rfl) (cL e g x t (.slice p n c) (.slice (some ⟨b,o,none⟩) m d)) (.slice q' m' d') (by rfl) (by rfl) (fun _=>aa tK _ _) (gG e g x t _ q' d m d' m' _ ns (de nd.path) em Ap _ (aa HR _ (ai xn bu)).2 Yu hm (by omega) HBN true EC2) ?_;rintro r w3 ⟨rfl,cX⟩;refine ⟨_,rfl,?_⟩;have fk:Below wc.heap.size wc w3:=ai bu cX;refine bM hK (by exact ⟨I6.below fk,af td.c0 fk,af td.c1 fk⟩) fun hS=>?_;clear hK KK;refine gD 5 6 7 8 hS ?_;refine fq 9 10 hS ?_;refine tn 11 hS ?_;refine wpAnyH_done (by kernel_rfl) ?_ _;refine bc ?_;clear hS;go_wp2_with fail;go_meet;exact ⟨rfl,ai xn fk,I6.below fk,td.below fk⟩};{
 have It:C3=true:=by rw [<-QH];simp [h40]
 subst It;have aJ5:(40:Int)<(vn:Int):=by omega
 clear QH;refine wp_region_noPanic ?_;refine wp_region_held_drew (S:=fun w'=>js w' w.heap.size e g x t (.slice p n c) (.slice (some ⟨b,o,none⟩) m d)/\w'.cell? ⟨w.heap.size+1,0,none⟩=some (.slice pp pn pc)/\w'.cell? ⟨w.heap.size+1,1,none⟩=some (.slice Nu vn vc)) (by kernel_rfl) (by exact ⟨I6,td.c0,td.c1⟩) (fun hS=>?_);refine fq 0 1 hS ?_;refine tn 2 hS ?_;refine ry [3] ?_;refine cn (fun KK hK=>?_) ?_;{refine dw (by rfl) 93 _ _ (by rfl) (.slice pp pn pc) (by rfl) (fun _=>aa HCP _ _) (ia pp pc pn nd.path uj _ (by exact td.r0) Ky PH hpm) ?_;rintro r w2 ⟨q',m',d',rfl,Ap,R6,Yu,aG⟩;refine ⟨_,rfl,?_⟩;have bu:Below wc.heap.size wc w2:=ai (Below.refl wc.heap.size wc).drew aG;refine bM hK (by exact ⟨I6.below bu,af td.c0 bu,af td.c1 bu⟩) fun hS=>?_;clear hK KK;refine bR 4 fun KK hK=>?_;refine fT (by rfl) 92 _ _ _ (by rfl) (cL e g x t (.slice p n c) (.slice (some ⟨b,o,none⟩) m d)) (.slice q' m' d') (by rfl) (by rfl) (fun _=>aa tK _ _) (gG e g x t _ q' d m d' m' _ ns (de nd.path) em Ap _ (aa HR _ (ai xn bu)).2 Yu hm (by omega) HBN true EC2) ?_;rintro r w3 ⟨rfl,cX⟩;refine ⟨_,rfl,?_⟩;have fk:Below wc.heap.size wc w3:=ai bu cX;refine bM hK (by exact ⟨I6.below fk,af td.c0 fk,af td.c1 fk⟩) fun hS=>?_;clear hK KK;refine gD 5 6 7 8 hS ?_;refine fq 9 10 hS ?_;refine tn 11 hS ?_;refine wpAnyH_done (by kernel_rfl) ?_ _;refine bc ?_;clear hS;go_wp2_with fail;go_meet;exact ⟨rfl,ai xn fk,I6.below fk,td.below fk⟩};exact AllReadyH.nil})
  obtain ⟨rfl,Zc,⟨i0,i1,i2,i3,i4,i5⟩,YD⟩:=hcut;have qF:=ae YD;obtain ⟨c0,c1,c2,c3,c4,c5,c6,c7,-,-,-,-,-⟩:=YD;clear I6 td HCP tK HBN EC2 QH;cases C3 with
  | true=>
   have eF:B=false:=by rw [iD];rfl
   subst eF;clear iD;go_wp2;go_ret;exact ⟨rfl,Zc⟩
  | false=>
   rw [Bool.not_false,Bool.true_and] at iD;obtain ⟨ow,eo⟩:=aZ nd.owner;rw [eo] at iD c2;clear eo;by_cases ho:ow=0;{
 subst ho;have qw:Hid (B=(fV ss nd.holders&&(fV ss nd.watchers&&fI e g nd.mode nd.holders.length nd.aC nd.gen))):=iD;clear iD;obtain ⟨T1,VN⟩:=aZ (fV ss nd.holders);obtain ⟨T2,Mb⟩:=aZ (fV ss nd.watchers);obtain ⟨T3,Ma⟩:=aZ (fI e g nd.mode hh nd.aC nd.gen);have ET1:=ae VN;have ET2:=ae Mb;have ET3:=ae Ma;have DL:Hid (B=(T1&&(T2&&T3))):=by show _=_;rw [aa qw,VN,Mb,aa yr,Ma]
 clear VN Mb Ma qw;go_wp2_with fail;refine (kq e g x t p hp c n hc hh _ ss nd.holders en yr _ (aa HR _ Zc).1 qF.r4 hn Ji T1 ET1).mono ?_;rintro r wa ⟨rfl,mx⟩;have Ba:=ai Zc mx;have HNa:=ae (qF.below mx);cases T1 with
 | false=>
  have eF:B=false:=by rw [aa DL];rfl
  subst eF;clear DL;go_wp2;go_ret;exact ⟨rfl,Ba⟩
 | true=>
  have a0:=af i0 mx;have a1:=af i1 mx;have a2:=af i2 mx;have a3:=af i3 mx;have a4:=af i4 mx;have a5:=af i5 mx;have d0:=af c0 mx;have d1:=af c1 mx;have d2:=af c2 mx;have d3:=af c3 mx;have d4:=af c4 mx;have d5:=af c5 mx;have d6:=af c6 mx;have d7:=af c7 mx;clear i0 i1 i2 i3 i4 i5 c0 c1 c2 c3 c4 c5 c6 c7 mx;go_wp2_with fail;refine (kq e g x t p up c n uc un _ ss nd.watchers en AZ _ (aa HR _ Ba).1 HNa.r7 hn PF T2 ET2).mono ?_;rintro r wb ⟨rfl,kh⟩;have Bb:=ai Ba kh;cases T2 with
  | false=>
   have eF:B=false:=by rw [aa DL];rfl
   subst eF;clear DL;go_wp2;go_ret;exact ⟨rfl,Bb⟩
  | true=>
   have eT:B=T3:=by rw [aa DL];rfl
   subst eT;have f0:=af a0 kh;have f1:=af a1 kh;have f2:=af a2 kh;have f3:=af a3 kh;have f4:=af a4 kh;have f5:=af a5 kh;have g0:=af d0 kh;have g1:=af d1 kh;have g2:=af d2 kh;have g3:=af d3 kh;have g4:=af d4 kh;have g5:=af d5 kh;have g6:=af d6 kh;have g7:=af d7 kh;clear a0 a1 a2 a3 a4 a5 d0 d1 d2 d3 d4 d5 d6 d7 kh DL;go_wp2_with fail;refine (qY e g x t _ nd.mode nd.aC nd.gen _ _ _ _ _ hp hc hh _ Ji B ET3).mono ?_;rintro r wd ⟨rfl,Lc⟩;have Bd:=ai Bb Lc;clear Lc f0 f1 f2 f3 f4 f5 g0 g1 g2 g3 g4 g5 g6 g7;go_wp2;go_ret;exact ⟨rfl,Bd⟩};{
 have hod:(ow==0)=false:=by simp [ho]
 have bA3:(ow != 0)=true:=by simp [ho]
 rw [hod,Bool.false_or] at iD;obtain ⟨L,eL⟩:=aZ (live ss ow);have EL:Hid ((ss.any fun s=>s.1==ow)=L):=eL;rw [eL] at iD;have qw:=ae iD;clear iD eL;go_wp2_with fail;refine (j8 e g x t p c n _ ss en _ (aa HR _ Zc).1 hn ow L EL).mono ?_;rintro r w2 ⟨rfl,aG⟩;have b2:=ai Zc aG;cases L with
 | false=>
  have eF:B=false:=by rw [aa qw];rfl
  subst eF;clear qw;go_wp2;go_ret;exact ⟨rfl,b2⟩
 | true=>
  have qw:Hid (B=(fV ss nd.holders&&(fV ss nd.watchers&&fI e g nd.mode nd.holders.length nd.aC nd.gen))):=aa qw;have Tg:=ae (qF.below aG);replace i0:=af i0 aG;replace i1:=af i1 aG;replace i2:=af i2 aG;replace i3:=af i3 aG;replace i4:=af i4 aG;replace i5:=af i5 aG;replace c0:=af c0 aG;replace c1:=af c1 aG;replace c2:=af c2 aG;replace c3:=af c3 aG;replace c4:=af c4 aG;replace c5:=af c5 aG;replace c6:=af c6 aG;replace c7:=af c7 aG;clear aG;obtain ⟨T1,VN⟩:=aZ (fV ss nd.holders);obtain ⟨T2,Mb⟩:=aZ (fV ss nd.watchers);obtain ⟨T3,Ma⟩:=aZ (fI e g nd.mode hh nd.aC nd.gen);have ET1:=ae VN;have ET2:=ae Mb;have ET3:=ae Ma;have DL:Hid (B=(T1&&(T2&&T3))):=by show _=_;rw [aa qw,VN,Mb,aa yr,Ma]
  clear VN Mb Ma qw;go_wp2_with fail;refine (kq e g x t p hp c n hc hh _ ss nd.holders en yr _ (aa HR _ b2).1 Tg.r4 hn Ji T1 ET1).mono ?_;rintro r wa ⟨rfl,mx⟩;have Ba:=ai b2 mx;have HNa:=ae (Tg.below mx);cases T1 with
  | false=>
   have eF:B=false:=by rw [aa DL];rfl
   subst eF;clear DL;go_wp2;go_ret;exact ⟨rfl,Ba⟩
  | true=>
   have a0:=af i0 mx;have a1:=af i1 mx;have a2:=af i2 mx;have a3:=af i3 mx;have a4:=af i4 mx;have a5:=af i5 mx;have d0:=af c0 mx;have d1:=af c1 mx;have d2:=af c2 mx;have d3:=af c3 mx;have d4:=af c4 mx;have d5:=af c5 mx;have d6:=af c6 mx;have d7:=af c7 mx;clear i0 i1 i2 i3 i4 i5 c0 c1 c2 c3 c4 c5 c6 c7 mx;go_wp2_with fail;refine (kq e g x t p up c n uc un _ ss nd.watchers en AZ _ (aa HR _ Ba).1 HNa.r7 hn PF T2 ET2).mono ?_;rintro r wb ⟨rfl,kh⟩;have Bb:=ai Ba kh;cases T2 with
   | false=>
    have eF:B=false:=by rw [aa DL];rfl
    subst eF;clear DL;go_wp2;go_ret;exact ⟨rfl,Bb⟩
   | true=>
    have eT:B=T3:=by rw [aa DL];rfl
    subst eT;have f0:=af a0 kh;have f1:=af a1 kh;have f2:=af a2 kh;have f3:=af a3 kh;have f4:=af a4 kh;have f5:=af a5 kh;have g0:=af d0 kh;have g1:=af d1 kh;have g2:=af d2 kh;have g3:=af d3 kh;have g4:=af d4 kh;have g5:=af d5 kh;have g6:=af d6 kh;have g7:=af d7 kh;clear a0 a1 a2 a3 a4 a5 d0 d1 d2 d3 d4 d5 d6 d7 kh DL;go_wp2_with fail;refine (qY e g x t _ nd.mode nd.aC nd.gen _ _ _ _ _ hp hc hh _ Ji B ET3).mono ?_;rintro r wd ⟨rfl,Lc⟩;have Bd:=ai Bb Lc;clear Lc f0 f1 f2 f3 f4 f5 g0 g1 g2 g3 g4 g5 g6 g7;go_wp2;go_ret;exact ⟨rfl,Bd⟩}
end Go.Proofs.YtmfjiolopcbcmaaGreatDoor
