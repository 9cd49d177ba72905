import Derived.Test.YtcfcafeciggjeaaGreatDoorK9
namespace Go.Proofs.YtcfcafeciggjeaaGreatDoor
set_option maxHeartbeats 1600000
set_option linter.all false
set_option maxRecDepth 100000
open Go.ChangeShapes Go.WideShapes Go.ChangeAt Go.RowKit Go.Proofs.Tryz
variable {l:List Int}
def leB (l m:List Int):Bool:=Op.bytesLess (aC l).toList (aC m).toList||(aC l).toList==(aC m).toList
def fq:aD:=⟨[],[],0,0,[],0,0,[]⟩
def iP (e g:Int) (ss:List aY) (ns:List aD) (k:Nat):Bool:=
 let nd:=ns.getD k fq
 (vp nd.path&&(k==0||!leB nd.path (ns.getD (k-1) fq).path))&&(dw ns (dm nd.path)&&(decide (nd.value.length<=40)&&((nd.owner==0||live ss nd.owner)&&(gq ss nd.holders&&(gq ss nd.watchers&&dN e g nd.mode nd.holders.length nd.aB nd.gen)))))
theorem mc (h:bM l):bM (dm l):=by
 unfold dm;split;{intro x hx;simp at hx;omega};{exact fun x hx=>h x (List.mem_of_mem_take hx)}
theorem nH.gD {w:World} {v:Value} (h:nH w v l):∃ p c n,v=.S p n c/\Hid (l.length=n):=by
 obtain ⟨p,c,rfl,-⟩:=h;exact ⟨p,c,_,rfl,cw⟩
theorem IM (e g x t:Int) (p q:Option Addr) (c n d m k:Nat) (ss:List aY) (ns:List aD) (en:Hid (ss.length=n)) (em:Hid (ns.length=m)) (w:World) (h:RdS w (.S p n c) ss) (hN:kJ w (.S q m d) ns) (hn:n<=1048576) (hm:m<=1048576) (hk:k<m)
  (fI:Hid (∀ nd∈ns,bM nd.path/\nd.path.length<=1048576/\nd.value.length<=1048576/\nd.holders.length<=1048576/\nd.watchers.length<=1048576)) (B:Bool) (eB:Hid (iP e g ss ns k=B)) :
  Calls prog 34 #[cY e g x t (.S p n c) (.S q m d),.I k] w fun r w'=>r=.returned (.bool B)/\Bw w w':=by
 have HR:=ae fun (w':World) (hb:Bw w w')=>ag (h.below hb) (hN.below hb);have fL:k<ns.length:=by rw [aa em];exact hk
 obtain ⟨nd,hy⟩:∃ y,ns[k]?=some y:=⟨_,aK fL⟩;have Cc:ns.getD k fq=nd:=by rw [List.getD_eq_getElem?_getD,hy];rfl
 obtain ⟨b,o,rfl,hA⟩:=hN.at ab;obtain ⟨P,V,H,U,aV⟩:=hA k nd hy;obtain ⟨vG,jL,Zu,Rz,Ad⟩:=aa fI _ (aF hy);obtain ⟨pp,pc,pn,rfl,Bx⟩:=aV.r0.gD;obtain ⟨OO,vc,vn,rfl,Uk⟩:=aV.r1.gD;obtain ⟨hp,hc,hh,rfl,Gi⟩:=aV.r4.gD;obtain ⟨up,uc,un,rfl,Jk⟩:=aV.r7.gD;have Mb:pn<=1048576:=by rw [<-aa Bx];exact jL
 have LR:vn<=1048576:=by rw [<-aa Uk];exact Zu
 have J4:hh<=1048576:=by rw [<-aa Gi];exact Rz
 have JX:un<=1048576:=by rw [<-aa Jk];exact Ad
 have Ms:=aT k m;have aM0:=dE 0 k;have b1:Bw w (w.alloc (.cells #[.U e,.U g,.U x,.I t,.S p n c,.S (some ⟨b,o,none⟩) m d] 27)):=aJ.alloc aA _;have aK6:=aV.below b1;obtain ⟨c0,c1,c2,c3,c4,c5,c6,c7,-,-,-,-,-⟩:=aK6;have HYD:=ae Cc;have ud:=ae aV;have Kg:=ae vG;have HA:=ae hA;clear aV hA Cc vG jL Zu Rz Ad hN h;go_enter func34,ntmps34;go_wp2_with fail;obtain ⟨X,hX⟩:=ax ((w.alloc (.cells #[.U e,.U g,.U x,.I t,.S p n c,.S (some ⟨b,o,none⟩) m d] 27)).alloc (.cells #[.S pp pn pc,.S OO vn vc,.U nd.owner,.I nd.mode,.S hp hh hc,.U nd.aB,.U nd.gen,.S up un uc] 38));have bX:Bw w X:=by rw [hX];exact b1.alloc aU _
 have iX:lX X w.heap.size e g x t (.S p n c) (.S (some ⟨b,o,none⟩) m d):=by rw [hX];simp [lX]
 have nX:mY X (w.heap.size+1) 0 nd (.S pp pn pc) (.S OO vn vc) (.S hp hh hc) (.S up un uc):=
  ⟨by rw [hX];simp,by rw [hX];simp,by rw [hX];simp,by rw [hX];simp,by rw [hX];simp,by rw [hX];simp,by rw [hX];simp,by rw [hX];simp,ud.r0.below bX,ud.r1.below bX,ud.r4.below bX,ud.r7.below bX,ud.k0⟩
 rw [<-hX];have BX:=ae bX;have IX:=ae iX;have NX:=ae nX;clear hX b1 c0 c1 c2 c3 c4 c5 c6 c7 bX iX nX;obtain ⟨V1,eV⟩:=aH (vp nd.path);have EV:=ae eV;clear eV;obtain ⟨C,eC⟩:∃ C,(!(V1&&(k==0||!leB nd.path (ns.getD (k-1) fq).path)))=C:=⟨_,rfl⟩;have hB:B=(!C&&(dw ns (dm nd.path)&&(decide (nd.value.length<=40)&&((nd.owner==0||live ss nd.owner)&&(gq ss nd.holders&&(gq ss nd.watchers&&dN e g nd.mode nd.holders.length nd.aB nd.gen)))))):=by rw [<-aa eB,iP,aa HYD,<-eC,Bool.not_not,show vp nd.path=V1 from aa EV]
 go_cut [32] (fun rv wc=>rv=.bool C/\Bw w wc/\lX wc w.heap.size e g x t (.S p n c) (.S (some ⟨b,o,none⟩) m d)/\mY wc (w.heap.size+1) 0 nd (.S pp pn pc) (.S OO vn vc) (.S hp hh hc) (.S up un uc))
 case first =>(
 cases V1 with
 | false=>
  have Jm:C=true:=by rw [<-eC];rfl
  subst Jm;clear eC;refine bO (fun w'=>w'.cell? ⟨w.heap.size+1,0,none⟩=some (.S pp pn pc)/\w'.cell? ⟨w.heap.size,5,none⟩=some (.S (some ⟨b,o,none⟩) m d)/\Rd w' (.S pp pn pc) nd.path) (by exact ⟨NX.c0,IX.2.2.2.2.2,NX.r0⟩) fun hS=>?_;refine fe 0 1 hS ?_;refine ry [2] ?_;refine cn (fun KK hK=>?_) ?_;{refine ia (we pp pc pn nd.path Bx _ (by exact NX.r0) Kg Mb false EV) ?_;rintro r w2 ⟨rfl,cX⟩;refine ⟨_,rfl,?_⟩;have cR:Bw X w2:=ah (Below.refl X.heap.size X).drew cX;refine cg hK (by exact ⟨af NX.c0 cR,af IX.2.2.2.2.2 cR,NX.r0.below cR⟩) fun hS=>?_;clear hK KK;refine fe 3 4 hS ?_;refine iI 5 6 7 8 hS ?_;refine iI 9 10 11 12 hS ?_;refine iI 13 14 15 16 hS ?_;refine iI 17 18 19 20 hS ?_;refine tn 21 hS ?_;refine bu ?_;clear hS;go_wp2_with fail;go_meet;exact ⟨rfl,ah BX cR,IX.below cR,NX.below cR⟩};exact AllReadyH.nil
 | true=>
  by_cases GI:k=0;{
 have Jm:C=false:=by rw [<-eC,GI];rfl
 subst Jm;have VH:¬ 0<k:=ab;have bQ6:¬ (0:Int)<(k:Int):=ab;clear eC GI;refine bO (fun w'=>w'.cell? ⟨w.heap.size+1,0,none⟩=some (.S pp pn pc)/\w'.cell? ⟨w.heap.size,5,none⟩=some (.S (some ⟨b,o,none⟩) m d)/\Rd w' (.S pp pn pc) nd.path) (by exact ⟨NX.c0,IX.2.2.2.2.2,NX.r0⟩) fun hS=>?_;refine fe 0 1 hS ?_;refine bH 2 fun KK hK=>?_;refine ia (we pp pc pn nd.path Bx _ (by exact NX.r0) Kg Mb true EV) ?_;rintro r w2 ⟨rfl,cX⟩;refine ⟨_,rfl,?_⟩;have cR:Bw X w2:=ah (Below.refl X.heap.size X).drew cX;refine cg hK (by exact ⟨af NX.c0 cR,af IX.2.2.2.2.2 cR,NX.r0.below cR⟩) fun hS=>?_;clear hK KK;refine gC 3 4 5 6 hS ?_;refine tn 7 hS ?_;refine iI 8 9 10 11 hS ?_;refine iI 12 13 14 15 hS ?_;refine iI 16 17 18 19 hS ?_;refine fe 20 21 hS ?_;refine bu ?_;clear hS;go_wp2_with fail;go_meet;exact ⟨rfl,ah BX cR,IX.below cR,NX.below cR⟩};{
 obtain ⟨j,ej⟩:∃ j:Nat,(k:Int)-1=(j:Int):=⟨k-1,ab⟩;have Gh:k-1=j:=ab;have Bf:j<ns.length:=ab;obtain ⟨zd,hz⟩:∃ y,ns[j]?=some y:=⟨_,aK Bf⟩;have ZP:ns.getD j fq=zd:=by rw [List.getD_eq_getElem?_getD,hz];rfl
 obtain ⟨Z,Z1,Z2,Z3,hzn⟩:=aa HA j zd hz;obtain ⟨zp,zc,zn,rfl,eZn⟩:=hzn.r0.gD;have KZ:=ae (af hzn.c0 BX);have RZ:=ae (hzn.r0.below BX);have hpk:0<k:=ab;have bQ4:=ja 0 k;have VW:=aT j m;have hj0:=dE 0 j;have wj:=ji j;rw [Gh,ZP,show (k==0)=false by simp [GI],Bool.true_and,Bool.false_or,Bool.not_not] at eC;have HLE:Hid ((Op.bytesLess (aC nd.path).toList (aC zd.path).toList||(aC nd.path).toList==(aC zd.path).toList)=C):=eC;clear hz ZP Bf hzn Gh GI eC;refine bO (fun w'=>w'.cell? ⟨w.heap.size+1,0,none⟩=some (.S pp pn pc)/\w'.cell? ⟨w.heap.size,5,none⟩=some (.S (some ⟨b,o,none⟩) m d)/\Rd w' (.S pp pn pc) nd.path/\w'.cell? ⟨b,o+j*8,none⟩=some (.S zp zn zc)/\Rd w' (.S zp zn zc) zd.path) (by exact ⟨NX.c0,IX.2.2.2.2.2,NX.r0,KZ,RZ⟩) fun hS=>?_;refine fe 0 1 hS ?_;refine ry [2] ?_;refine cn (fun KK hK=>?_) ?_;{
 refine ia (we pp pc pn nd.path Bx _ (by exact NX.r0) Kg Mb true EV) ?_;rintro r w2 ⟨rfl,cX⟩;refine ⟨_,rfl,?_⟩;have cR:Bw X w2:=ah (Below.refl X.heap.size X).drew cX;refine cg hK (by exact ⟨af NX.c0 cR,af IX.2.2.2.2.2 cR,NX.r0.below cR,af KZ cR,RZ.below cR⟩) fun hS=>?_;clear hK KK;refine gC 3 4 5 6 hS ?_;refine fe 7 8 hS ?_;refine tn 9 hS ?_;refine wpAnyH_take (i:=10) (oi:=_) (v:=?_) (by simp only [List.getElem?_toArray,List.getElem?_cons_succ,List.getElem?_cons_zero];rfl) cW cW cW (fun _ _ _ h=>h) (Or.inl ⟨bU,?_⟩) hS ?_;rotate_left;{(intro w' qi;(try dsimp only at qi);have hcv:=gH (aa Bx) qi.2.2.1;go_simp;try with_reducible rfl)}
 simp only [Act.put,xa,xb,xc];refine gC 11 12 13 14 hS ?_;refine fe 15 16 hS ?_;refine tn 17 hS ?_;refine wpAnyH_take (i:=18) (oi:=_) (v:=?_) (by simp only [List.getElem?_toArray,List.getElem?_cons_succ,List.getElem?_cons_zero];rfl) cW cW cW (fun _ _ _ h=>h) (Or.inl ⟨bU,?_⟩) hS ?_;rotate_left;{(intro w' qi;(try dsimp only at qi);have hcv:=gH (aa eZn) qi.2.2.2.2;go_simp;try with_reducible rfl)}
 simp only [Act.put,xa,xb,xc];refine wpAnyH_take (i:=19) (oi:=_) (v:=?_) (by simp only [List.getElem?_toArray,List.getElem?_cons_succ,List.getElem?_cons_zero];rfl) cW cW cW (fun _ _ _ h=>h) (Or.inl ⟨bU,?_⟩) hS ?_;rotate_left;{(intro w' qi;(try dsimp only at qi);have hle:=aa HLE;go_simp;try with_reducible rfl)}
 simp only [Act.put,xa,xb,xc];refine fe 20 21 hS ?_;refine bu ?_;clear hS;go_wp2_with fail;go_meet;exact ⟨rfl,ah BX cR,IX.below cR,NX.below cR⟩};exact AllReadyH.nil})
 obtain ⟨rfl,oI,⟨i0,i1,i2,i3,i4,i5⟩,Q6⟩:=hcut;have uL:=ae Q6;obtain ⟨c0,c1,c2,c3,c4,c5,c6,c7,-,-,-,-,-⟩:=Q6;clear EV HA ud NX IX BX;cases C with
 | true=>
  have eF:B=false:=by rw [hB];rfl
  subst eF;clear hB eC;go_wp2;go_ret;exact ⟨rfl,oI⟩
 | false=>
  rw [Bool.not_false,Bool.true_and] at hB;have HB:=ae hB;clear hB eC;go_wp2_with fail;obtain ⟨pa,pb,pd,epp,Q5,hpm⟩:=uL.k0;simp only [Value.slice.injEq] at epp;obtain ⟨rfl,rfl,rfl⟩:=epp;have I6:Hid (lX wc w.heap.size e g x t (.S p n c) (.S (some ⟨b,o,none⟩) m d)):=⟨i0,i1,i2,i3,i4,i5⟩;have Rl:∀ (vs:Array Value) (w:World),(callFunc 88 vs).run prog w=.ok (.enter 88 vs) w:=fun vs w=>cW;have HCP:=ae Rl;have la:∀ (vs:Array Value) (w:World),(callFunc 87 vs).run prog w=.ok (.enter 87 vs) w:=fun vs w=>cW;have Gy:=ae la;have HBN:Hid (bM (dm nd.path)/\∀ nd∈ns,bM nd.path):=⟨mc Kg,fun nd h=>(aa fI nd h).1⟩;clear i0 i1 i2 i3 i4 i5 c0 c1 c2 c3 c4 c5 c6 c7 Rl la;obtain ⟨C2,eC2⟩:=aH (dw ns (dm nd.path));have EC2:=ae eC2;obtain ⟨C3,Sb⟩:∃ C3,(!(C2&&decide (nd.value.length<=40)))=C3:=⟨_,rfl⟩;have jL:B=(!C3&&((nd.owner==0||live ss nd.owner)&&(gq ss nd.holders&&(gq ss nd.watchers&&dN e g nd.mode nd.holders.length nd.aB nd.gen)))):=by rw [aa HB,eC2,<-Sb,Bool.not_not,Bool.and_assoc]
  rw [aa Uk] at Sb;clear eC2 HB
  go_cut [44] (fun rv w'=>rv=.bool C3/\Bw w w'/\lX w' w.heap.size e g x t (.S p n c) (.S (some ⟨b,o,none⟩) m d)/\mY w' (w.heap.size+1) 0 nd (.S pp pn pc) (.S OO vn vc) (.S hp hh hc) (.S up un uc))
  case first =>(
 clear jL;cases C2 with
 | false=>
  have Jm:C3=true:=by rw [<-Sb];rfl
  subst Jm;clear Sb;refine bO (fun w'=>lX w' w.heap.size e g x t (.S p n c) (.S (some ⟨b,o,none⟩) m d)/\w'.cell? ⟨w.heap.size+1,0,none⟩=some (.S pp pn pc)/\w'.cell? ⟨w.heap.size+1,1,none⟩=some (.S OO vn vc)) (by exact ⟨I6,uL.c0,uL.c1⟩) fun hS=>?_;refine fe 0 1 hS ?_;refine tn 2 hS ?_;refine ry [3] ?_;refine cn (fun KK hK=>?_) ?_;{refine gG bU 88 _ _ bU (.S pp pn pc) bU (fun _=>aa HCP _ _) (iS pp pc pn nd.path Bx _ (by exact uL.r0) Mb Q5 hpm) ?_;rintro r w2 ⟨q',m',d',rfl,Ue,To,hr',cX⟩;refine ⟨_,rfl,?_⟩;have cR:Bw wc w2:=ah (Below.refl wc.heap.size wc).drew cX;refine cg hK (by exact ⟨I6.below cR,af uL.c0 cR,af uL.c1 cR⟩) fun hS=>?_;clear hK KK;refine bH 4 fun KK hK=>?_;refine ky bU 87 _ _ _ bU (cY e g x t (.S p n c) (.S (some ⟨b,o,none⟩) m d)) (.S q' m' d') bU bU (fun _=>aa Gy _ _) (kY e g x t _ q' d m d' m' _ ns (dm nd.path) em Ue _ (aa HR _ (ah oI cR)).2 hr' hm ab HBN false EC2) ?_;rintro r w3 ⟨rfl,de⟩;refine ⟨_,rfl,?_⟩;have gL:Bw wc w3:=ah cR de;refine cg hK (by exact ⟨I6.below gL,af uL.c0 gL,af uL.c1 gL⟩) fun hS=>?_;clear hK KK;refine fe 5 6 hS ?_;refine iI 7 8 9 10 hS ?_;refine tn 11 hS ?_;refine bu ?_;clear hS;go_wp2_with fail;go_meet;exact ⟨rfl,ah oI gL,I6.below gL,uL.below gL⟩};exact AllReadyH.nil
 | true=>
  by_cases h40:vn<=40;{
 have Jm:C3=false:=by rw [<-Sb];simp [h40]
 subst Jm;have aS0:¬ (40:Int)<(vn:Int):=ab;clear Sb;refine bO (fun w'=>lX w' w.heap.size e g x t (.S p n c) (.S (some ⟨b,o,none⟩) m d)/\w'.cell? ⟨w.heap.size+1,0,none⟩=some (.S pp pn pc)/\w'.cell? ⟨w.heap.size+1,1,none⟩=some (.S OO vn vc)) (by exact ⟨I6,uL.c0,uL.c1⟩) fun hS=>?_;refine fe 0 1 hS ?_;refine tn 2 hS ?_;refine bH 3 fun KK hK=>?_;refine gG bU 88 _ _ bU (.S pp pn pc) bU (fun _=>aa HCP _ _) (iS pp pc pn nd.path Bx _ (by exact uL.r0) Mb Q5 hpm) ?_;rintro r w2 ⟨q',m',d',rfl,Ue,To,hr',cX⟩;refine ⟨_,rfl,?_⟩;have cR:Bw wc w2:=ah (Below.refl wc.heap.size wc).drew cX;refine cg hK (by exact ⟨I6.below cR,af uL.c0 cR,af uL.c1 cR⟩) fun hS=>?_;clear hK KK;refine bH 4 fun KK hK=>?_;refine ky bU 87 _ _ _ bU (cY e g x t (.S p n c) (.S (some ⟨b,o,none⟩) m d)) (.S q' m' d') bU bU (fun _=>aa Gy _ _) (kY e g x t _ q' d m d' m' _ ns (dm nd.path) em Ue _ (aa HR _ (ah oI cR)).2 hr' hm ab HBN true EC2) ?_;rintro r w3 ⟨rfl,de⟩;refine ⟨_,rfl,?_⟩;have gL:Bw wc w3:=ah cR de;refine cg hK (by exact ⟨I6.below gL,af uL.c0 gL,af uL.c1 gL⟩) fun hS=>?_;clear hK KK;refine gC 5 6 7 8 hS ?_;refine fe 9 10 hS ?_;refine tn 11 hS ?_;refine bu ?_;clear hS;go_wp2_with fail;go_meet;exact ⟨rfl,ah oI gL,I6.below gL,uL.below gL⟩};{
 have Jm:C3=true:=by rw [<-Sb];simp [h40]
 subst Jm;have aS0:=ja 40 vn;clear Sb;refine bO (fun w'=>lX w' w.heap.size e g x t (.S p n c) (.S (some ⟨b,o,none⟩) m d)/\w'.cell? ⟨w.heap.size+1,0,none⟩=some (.S pp pn pc)/\w'.cell? ⟨w.heap.size+1,1,none⟩=some (.S OO vn vc)) (by exact ⟨I6,uL.c0,uL.c1⟩) fun hS=>?_;refine fe 0 1 hS ?_;refine tn 2 hS ?_;refine ry [3] ?_;refine cn (fun KK hK=>?_) ?_;{refine gG bU 88 _ _ bU (.S pp pn pc) bU (fun _=>aa HCP _ _) (iS pp pc pn nd.path Bx _ (by exact uL.r0) Mb Q5 hpm) ?_;rintro r w2 ⟨q',m',d',rfl,Ue,To,hr',cX⟩;refine ⟨_,rfl,?_⟩;have cR:Bw wc w2:=ah (Below.refl wc.heap.size wc).drew cX;refine cg hK (by exact ⟨I6.below cR,af uL.c0 cR,af uL.c1 cR⟩) fun hS=>?_;clear hK KK;refine bH 4 fun KK hK=>?_;refine ky bU 87 _ _ _ bU (cY e g x t (.S p n c) (.S (some ⟨b,o,none⟩) m d)) (.S q' m' d') bU bU (fun _=>aa Gy _ _) (kY e g x t _ q' d m d' m' _ ns (dm nd.path) em Ue _ (aa HR _ (ah oI cR)).2 hr' hm ab HBN true EC2) ?_;rintro r w3 ⟨rfl,de⟩;refine ⟨_,rfl,?_⟩;have gL:Bw wc w3:=ah cR de;refine cg hK (by exact ⟨I6.below gL,af uL.c0 gL,af uL.c1 gL⟩) fun hS=>?_;clear hK KK;refine gC 5 6 7 8 hS ?_;refine fe 9 10 hS ?_;refine tn 11 hS ?_;refine bu ?_;clear hS;go_wp2_with fail;go_meet;exact ⟨rfl,ah oI gL,I6.below gL,uL.below gL⟩};exact AllReadyH.nil})
  obtain ⟨rfl,hbd,⟨i0,i1,i2,i3,i4,i5⟩,ab2⟩:=hcut;have xq:=ae ab2;obtain ⟨c0,c1,c2,c3,c4,c5,c6,c7,-,-,-,-,-⟩:=ab2;clear I6 uL HCP Gy HBN EC2 Sb;cases C3 with
  | true=>
   have eF:B=false:=by rw [jL];rfl
   subst eF;clear jL;go_wp2;go_ret;exact ⟨rfl,hbd⟩
  | false=>
   rw [Bool.not_false,Bool.true_and] at jL;obtain ⟨ow,eo⟩:=aH nd.owner;rw [eo] at jL c2;clear eo;by_cases ho:ow=0;{
 subst ho;have ra:Hid (B=(gq ss nd.holders&&(gq ss nd.watchers&&dN e g nd.mode nd.holders.length nd.aB nd.gen))):=jL;clear jL;obtain ⟨T1,Xb⟩:=aH (gq ss nd.holders);obtain ⟨T2,Nw⟩:=aH (gq ss nd.watchers);obtain ⟨T3,Nu⟩:=aH (dN e g nd.mode hh nd.aB nd.gen);have ET1:=ae Xb;have ET2:=ae Nw;have ET3:=ae Nu;have AF:Hid (B=(T1&&(T2&&T3))):=by show _=_;rw [aa ra,Xb,Nw,aa Gi,Nu]
 clear Xb Nw Nu ra;go_wp2_with fail;refine (kW e g x t p hp c n hc hh _ ss nd.holders en Gi _ (aa HR _ hbd).1 xq.r4 hn J4 T1 ET1).mono ?_;rintro r wa ⟨rfl,oK⟩;have Ba:=ah hbd oK;have HNa:=ae (xq.below oK);cases T1 with
 | false=>
  have eF:B=false:=by rw [aa AF];rfl
  subst eF;clear AF;go_wp2;go_ret;exact ⟨rfl,Ba⟩
 | true=>
  have a0:=af i0 oK;have a1:=af i1 oK;have a2:=af i2 oK;have a3:=af i3 oK;have a4:=af i4 oK;have a5:=af i5 oK;have d0:=af c0 oK;have d1:=af c1 oK;have d2:=af c2 oK;have d3:=af c3 oK;have d4:=af c4 oK;have d5:=af c5 oK;have d6:=af c6 oK;have d7:=af c7 oK;clear i0 i1 i2 i3 i4 i5 c0 c1 c2 c3 c4 c5 c6 c7 oK;go_wp2_with fail;refine (kW e g x t p up c n uc un _ ss nd.watchers en Jk _ (aa HR _ Ba).1 HNa.r7 hn JX T2 ET2).mono ?_;rintro r wb ⟨rfl,kO⟩;have Bb:=ah Ba kO;cases T2 with
  | false=>
   have eF:B=false:=by rw [aa AF];rfl
   subst eF;clear AF;go_wp2;go_ret;exact ⟨rfl,Bb⟩
  | true=>
   have eT:B=T3:=by rw [aa AF];rfl
   subst eT;have f0:=af a0 kO;have f1:=af a1 kO;have f2:=af a2 kO;have f3:=af a3 kO;have f4:=af a4 kO;have f5:=af a5 kO;have g0:=af d0 kO;have g1:=af d1 kO;have g2:=af d2 kO;have g3:=af d3 kO;have g4:=af d4 kO;have g5:=af d5 kO;have g6:=af d6 kO;have g7:=af d7 kO;clear a0 a1 a2 a3 a4 a5 d0 d1 d2 d3 d4 d5 d6 d7 kO AF;go_wp2_with fail;refine (rW e g x t _ nd.mode nd.aB nd.gen _ _ _ _ _ hp hc hh _ J4 B ET3).mono ?_;rintro r wd ⟨rfl,MG⟩;have Bd:=ah Bb MG;clear MG f0 f1 f2 f3 f4 f5 g0 g1 g2 g3 g4 g5 g6 g7;go_wp2;go_ret;exact ⟨rfl,Bd⟩};{
 have hod:(ow==0)=false:=by simp [ho]
 have bQ7:(ow != 0)=true:=by simp [ho]
 rw [hod,Bool.false_or] at jL;obtain ⟨L,eL⟩:=aH (live ss ow);have EL:Hid ((ss.any fun s=>s.1==ow)=L):=eL;rw [eL] at jL;have ra:=ae jL;clear jL eL;go_wp2_with fail;refine (kG e g x t p c n _ ss en _ (aa HR _ hbd).1 hn ow L EL).mono ?_;rintro r w2 ⟨rfl,cX⟩;have b2:=ah hbd cX;cases L with
 | false=>
  have eF:B=false:=by rw [aa ra];rfl
  subst eF;clear ra;go_wp2;go_ret;exact ⟨rfl,b2⟩
 | true=>
  have ra:Hid (B=(gq ss nd.holders&&(gq ss nd.watchers&&dN e g nd.mode nd.holders.length nd.aB nd.gen))):=aa ra;have Uz:=ae (xq.below cX);replace i0:=af i0 cX;replace i1:=af i1 cX;replace i2:=af i2 cX;replace i3:=af i3 cX;replace i4:=af i4 cX;replace i5:=af i5 cX;replace c0:=af c0 cX;replace c1:=af c1 cX;replace c2:=af c2 cX;replace c3:=af c3 cX;replace c4:=af c4 cX;replace c5:=af c5 cX;replace c6:=af c6 cX;replace c7:=af c7 cX;clear cX;obtain ⟨T1,Xb⟩:=aH (gq ss nd.holders);obtain ⟨T2,Nw⟩:=aH (gq ss nd.watchers);obtain ⟨T3,Nu⟩:=aH (dN e g nd.mode hh nd.aB nd.gen);have ET1:=ae Xb;have ET2:=ae Nw;have ET3:=ae Nu;have AF:Hid (B=(T1&&(T2&&T3))):=by show _=_;rw [aa ra,Xb,Nw,aa Gi,Nu]
  clear Xb Nw Nu ra;go_wp2_with fail;refine (kW e g x t p hp c n hc hh _ ss nd.holders en Gi _ (aa HR _ b2).1 Uz.r4 hn J4 T1 ET1).mono ?_;rintro r wa ⟨rfl,oK⟩;have Ba:=ah b2 oK;have HNa:=ae (Uz.below oK);cases T1 with
  | false=>
   have eF:B=false:=by rw [aa AF];rfl
   subst eF;clear AF;go_wp2;go_ret;exact ⟨rfl,Ba⟩
  | true=>
   have a0:=af i0 oK;have a1:=af i1 oK;have a2:=af i2 oK;have a3:=af i3 oK;have a4:=af i4 oK;have a5:=af i5 oK;have d0:=af c0 oK;have d1:=af c1 oK;have d2:=af c2 oK;have d3:=af c3 oK;have d4:=af c4 oK;have d5:=af c5 oK;have d6:=af c6 oK;have d7:=af c7 oK;clear i0 i1 i2 i3 i4 i5 c0 c1 c2 c3 c4 c5 c6 c7 oK;go_wp2_with fail;refine (kW e g x t p up c n uc un _ ss nd.watchers en Jk _ (aa HR _ Ba).1 HNa.r7 hn JX T2 ET2).mono ?_;rintro r wb ⟨rfl,kO⟩;have Bb:=ah Ba kO;cases T2 with
   | false=>
    have eF:B=false:=by rw [aa AF];rfl
    subst eF;clear AF;go_wp2;go_ret;exact ⟨rfl,Bb⟩
   | true=>
    have eT:B=T3:=by rw [aa AF];rfl
    subst eT;have f0:=af a0 kO;have f1:=af a1 kO;have f2:=af a2 kO;have f3:=af a3 kO;have f4:=af a4 kO;have f5:=af a5 kO;have g0:=af d0 kO;have g1:=af d1 kO;have g2:=af d2 kO;have g3:=af d3 kO;have g4:=af d4 kO;have g5:=af d5 kO;have g6:=af d6 kO;have g7:=af d7 kO;clear a0 a1 a2 a3 a4 a5 d0 d1 d2 d3 d4 d5 d6 d7 kO AF;go_wp2_with fail;refine (rW e g x t _ nd.mode nd.aB nd.gen _ _ _ _ _ hp hc hh _ J4 B ET3).mono ?_;rintro r wd ⟨rfl,MG⟩;have Bd:=ah Bb MG;clear MG f0 f1 f2 f3 f4 f5 g0 g1 g2 g3 g4 g5 g6 g7;go_wp2;go_ret;exact ⟨rfl,Bd⟩}
end Go.Proofs.YtcfcafeciggjeaaGreatDoor
