import Derived.Test.YtcfcafeciggjeaaGreatDoorK8
import Derived.Lib.BytesEntry
import Derived.Laws.Externs
namespace Go.Proofs.YtcfcafeciggjeaaGreatDoor
set_option maxHeartbeats 1600000
set_option linter.all false
set_option maxRecDepth 100000
open Go.ChangeShapes Go.WideShapes Go.ChangeAt Go.RowKit Go.Proofs.Tryz
variable {c:Nat} {l:List Int} {w:World}
def leB (l m:List Int):Bool:=Op.bytesLess (aC l).toList (aC m).toList||(aC l).toList==(aC m).toList
def fq:aD:=⟨[],[],0,0,[],0,0,[]⟩
def iP (e g:Int) (ss:List aY) (ns:List aD) (k:Nat):Bool:=
 let nd:=ns.getD k fq
 (vp nd.path&&(k==0||!leB nd.path (ns.getD (k-1) fq).path))&&(dw ns (dm nd.path)&&(decide (nd.value.length<=40)&&((nd.owner==0||live ss nd.owner)&&(gq ss nd.holders&&(gq ss nd.watchers&&dN e g nd.mode nd.holders.length nd.aB nd.gen)))))
theorem mc (h:bM l):bM (dm l):=by
 unfold dm;split;{intro x hx;simp at hx;omega};{exact fun x hx=>h x (List.mem_of_mem_take hx)}
theorem nH.gD {v:Value} (h:nH w v l):∃ p c n,v=.S p n c/\Hid (l.length=n):=by
 obtain ⟨p,c,rfl,-⟩:=h;exact ⟨p,c,_,rfl,(by show _=_;rfl)⟩
theorem AX (e g x t:Int) (p q:Option Addr) (c n d m k:Nat) (ss:List aY) (ns:List aD) (en:Hid (ss.length=n)) (em:Hid (ns.length=m)) (w:World) (h:uJ w (.S p n c) ss) (hN:kJ w (.S q m d) ns) (hn:n<=1048576) (hm:m<=1048576) (hk:k<m)
  (fI:Hid (∀ nd∈ns,bM nd.path/\nd.path.length<=1048576/\nd.value.length<=1048576/\nd.holders.length<=1048576/\nd.watchers.length<=1048576)) (B:Bool) (eB:Hid (iP e g ss ns k=B)) :
  Calls prog 34 #[cY e g x t (.S p n c) (.S q m d),.I k] w fun r w'=>r=.returned (.bool B)/\Bw w w':=by
 have HR:=ae fun (w':World) (hb:Bw w w')=>ag (h.below hb) (hN.below hb);have fL:k<ns.length:=by rw [aa em];exact hk
 obtain ⟨nd,hy⟩:∃ y,ns[k]?=some y:=⟨_,aK fL⟩;have Cc:ns.getD k fq=nd:=by rw [List.getD_eq_getElem?_getD,hy];rfl
 obtain ⟨b,o,rfl,hA⟩:=hN.at (by omega);obtain ⟨P,V,H,U,aV⟩:=hA k nd hy;obtain ⟨vG,jL,RC,Rz,Ad⟩:=aa fI _ (aF hy);obtain ⟨pp,pc,pn,rfl,Bx⟩:=aV.r0.gD;obtain ⟨OO,vc,vn,rfl,Uk⟩:=aV.r1.gD;obtain ⟨hp,hc,hh,rfl,Gi⟩:=aV.r4.gD;obtain ⟨up,uc,un,rfl,Jk⟩:=aV.r7.gD;have Mb:pn<=1048576:=by rw [<-aa Bx];exact jL
 have LR:vn<=1048576:=by rw [<-aa Uk];exact RC
 have J4:hh<=1048576:=by rw [<-aa Gi];exact Rz
 have JX:un<=1048576:=by rw [<-aa Jk];exact Ad
 have Ms:=aT k m;have aM0:=dE 0 k;have b1:Bw w (w.alloc (.cells #[.U e,.U g,.U x,.I t,.S p n c,.S (some ⟨b,o,none⟩) m d] 27)):=aJ.alloc aA _;have aK6:=aV.below b1;obtain ⟨c0,c1,c2,c3,c4,c5,c6,c7,-,-,-,-,-⟩:=aK6;have HYD:=ae Cc;have ud:=ae aV;have Kg:=ae vG;have HA:=ae hA;clear aV hA Cc vG jL RC Rz Ad hN h;go_enter func34,ntmps34;go_wp2_with fail;obtain ⟨X,hX⟩:=ax ((w.alloc (.cells #[.U e,.U g,.U x,.I t,.S p n c,.S (some ⟨b,o,none⟩) m d] 27)).alloc (.cells #[.S pp pn pc,.S OO vn vc,.U nd.owner,.I nd.mode,.S hp hh hc,.U nd.aB,.U nd.gen,.S up un uc] 38));have bX:Bw w X:=by rw [hX];exact b1.alloc (by simp) _
 have iX:pD X w.heap.size e g x t (.S p n c) (.S (some ⟨b,o,none⟩) m d):=by rw [hX];simp [pD]
 have nX:mY X (w.heap.size+1) 0 nd (.S pp pn pc) (.S OO vn vc) (.S hp hh hc) (.S up un uc):=
  ⟨by rw [hX];simp,by rw [hX];simp,by rw [hX];simp,by rw [hX];simp,by rw [hX];simp,by rw [hX];simp,by rw [hX];simp,by rw [hX];simp,ud.r0.below bX,ud.r1.below bX,ud.r4.below bX,ud.r7.below bX,ud.k0⟩
 rw [<-hX];have BX:=ae bX;have IX:=ae iX;have NX:=ae nX;clear hX b1 c0 c1 c2 c3 c4 c5 c6 c7 bX iX nX;obtain ⟨V1,eV⟩:=aH (vp nd.path);have EV:=ae eV;clear eV;obtain ⟨C,eC⟩:∃ C,(!(V1&&(k==0||!leB nd.path (ns.getD (k-1) fq).path)))=C:=⟨_,rfl⟩;have hB:B=(!C&&(dw ns (dm nd.path)&&(decide (nd.value.length<=40)&&((nd.owner==0||live ss nd.owner)&&(gq ss nd.holders&&(gq ss nd.watchers&&dN e g nd.mode nd.holders.length nd.aB nd.gen)))))):=by rw [<-aa eB,iP,aa HYD,<-eC,Bool.not_not,show vp nd.path=V1 from aa EV]
 go_cut [32] (fun rv wc=>rv=.bool C/\Bw w wc/\pD wc w.heap.size e g x t (.S p n c) (.S (some ⟨b,o,none⟩) m d)/\mY wc (w.heap.size+1) 0 nd (.S pp pn pc) (.S OO vn vc) (.S hp hh hc) (.S up un uc))
 case first =>(
 cases V1 with
 | false=>
  have Jm:C=true:=by rw [<-eC];rfl
  subst Jm;clear eC;refine bO (fun w'=>w'.cell? ⟨w.heap.size+1,0,none⟩=some (.S pp pn pc)/\w'.cell? ⟨w.heap.size,5,none⟩=some (.S (some ⟨b,o,none⟩) m d)/\Rd w' (.S pp pn pc) nd.path) (by exact ⟨NX.c0,IX.2.2.2.2.2,NX.r0⟩) fun hS=>?_;refine fe 0 1 hS ?_;refine ry [2] ?_;refine cn (fun KK hK=>?_) ?_;{refine ia (we pp pc pn nd.path Bx _ (by exact NX.r0) Kg Mb false EV) ?_;rintro r w2 ⟨rfl,bk⟩;refine ⟨_,rfl,?_⟩;have cR:Bw X w2:=ah (Below.refl X.heap.size X).drew bk;refine cg hK (by exact ⟨af NX.c0 cR,af IX.2.2.2.2.2 cR,NX.r0.below cR⟩) fun hS=>?_;clear hK KK;refine fe 3 4 hS ?_;refine iI 5 6 7 8 hS ?_;refine iI 9 10 11 12 hS ?_;refine iI 13 14 15 16 hS ?_;refine iI 17 18 19 20 hS ?_;refine tn 21 hS ?_;refine bu ?_;clear hS;go_wp2_with fail;go_meet;exact ⟨rfl,ah BX cR,IX.below cR,NX.below cR⟩};exact AllReadyH.nil
 | true=>
  by_cases ux:k=0;{
 have Jm:C=false:=by rw [<-eC,ux];rfl
 subst Jm;have VH:¬ 0<k:=by omega
 have bQ6:¬ (0:Int)<(k:Int):=by omega
 clear eC ux;refine bO (fun w'=>w'.cell? ⟨w.heap.size+1,0,none⟩=some (.S pp pn pc)/\w'.cell? ⟨w.heap.size,5,none⟩=some (.S (some ⟨b,o,none⟩) m d)/\Rd w' (.S pp pn pc) nd.path) (by exact ⟨NX.c0,IX.2.2.2.2.2,NX.r0⟩) fun hS=>?_;refine fe 0 1 hS ?_;refine bH 2 fun KK hK=>?_;refine ia (we pp pc pn nd.path Bx _ (by exact NX.r0) Kg Mb true EV) ?_;rintro r w2 ⟨rfl,bk⟩;refine ⟨_,rfl,?_⟩;have cR:Bw X w2:=ah (Below.refl X.heap.size X).drew bk;refine cg hK (by exact ⟨af NX.c0 cR,af IX.2.2.2.2.2 cR,NX.r0.below cR⟩) fun hS=>?_;clear hK KK;refine gC 3 4 5 6 hS ?_;refine tn 7 hS ?_;refine iI 8 9 10 11 hS ?_;refine iI 12 13 14 15 hS ?_;refine iI 16 17 18 19 hS ?_;refine fe 20 21 hS ?_;refine bu ?_;clear hS;go_wp2_with fail;go_meet;exact ⟨rfl,ah BX cR,IX.below cR,NX.below cR⟩};{
 obtain ⟨j,ej⟩:∃ j:Nat,(k:Int)-1=(j:Int):=⟨k-1,by omega⟩;have Gh:k-1=j:=by omega
 have Bf:j<ns.length:=by omega
 obtain ⟨zd,hz⟩:∃ y,ns[j]?=some y:=⟨_,aK Bf⟩;have ZP:ns.getD j fq=zd:=by rw [List.getD_eq_getElem?_getD,hz];rfl
 obtain ⟨Z,Z1,Z2,Z3,hzn⟩:=aa HA j zd hz;obtain ⟨zp,zc,zn,rfl,eZn⟩:=hzn.r0.gD;have KZ:=ae (af hzn.c0 BX);have RZ:=ae (hzn.r0.below BX);have hpk:0<k:=by omega
 have bQ4:=ja 0 k;have VW:=aT j m;have hj0:=dE 0 j;have wj:=fH j;rw [Gh,ZP,show (k==0)=false by simp [ux],Bool.true_and,Bool.false_or,Bool.not_not] at eC;have HLE:Hid ((Op.bytesLess (aC nd.path).toList (aC zd.path).toList||(aC nd.path).toList==(aC zd.path).toList)=C):=eC;clear hz ZP Bf hzn Gh ux eC;refine bO (fun w'=>w'.cell? ⟨w.heap.size+1,0,none⟩=some (.S pp pn pc)/\w'.cell? ⟨w.heap.size,5,none⟩=some (.S (some ⟨b,o,none⟩) m d)/\Rd w' (.S pp pn pc) nd.path/\w'.cell? ⟨b,o+j*8,none⟩=some (.S zp zn zc)/\Rd w' (.S zp zn zc) zd.path) (by exact ⟨NX.c0,IX.2.2.2.2.2,NX.r0,KZ,RZ⟩) fun hS=>?_;refine fe 0 1 hS ?_;refine ry [2] ?_;refine cn (fun KK hK=>?_) ?_;{
 refine ia (we pp pc pn nd.path Bx _ (by exact NX.r0) Kg Mb true EV) ?_;rintro r w2 ⟨rfl,bk⟩;refine ⟨_,rfl,?_⟩;have cR:Bw X w2:=ah (Below.refl X.heap.size X).drew bk;refine cg hK (by exact ⟨af NX.c0 cR,af IX.2.2.2.2.2 cR,NX.r0.below cR,af KZ cR,RZ.below cR⟩) fun hS=>?_;clear hK KK;refine gC 3 4 5 6 hS ?_;refine fe 7 8 hS ?_;refine tn 9 hS ?_;refine wpAnyH_take (i:=10) (oi:=_) (v:=?_) (by simp only [List.getElem?_toArray,List.getElem?_cons_succ,List.getElem?_cons_zero];rfl) (by kernel_rfl) (by kernel_rfl) (by kernel_rfl) (fun _ _ _ h=>h) (Or.inl ⟨by rfl,?_⟩) hS ?_;rotate_left;{(intro w' qi;(try dsimp only at qi);have hcv:=gH (aa Bx) qi.2.2.1;go_simp;try with_reducible rfl)}
 simp only [Act.put,xa,xb,xc];refine gC 11 12 13 14 hS ?_;refine fe 15 16 hS ?_;refine tn 17 hS ?_;refine wpAnyH_take (i:=18) (oi:=_) (v:=?_) (by simp only [List.getElem?_toArray,List.getElem?_cons_succ,List.getElem?_cons_zero];rfl) (by kernel_rfl) (by kernel_rfl) (by kernel_rfl) (fun _ _ _ h=>h) (Or.inl ⟨by rfl,?_⟩) hS ?_;rotate_left;{(intro w' qi;(try dsimp only at qi);have hcv:=gH (aa eZn) qi.2.2.2.2;go_simp;try with_reducible rfl)}
 simp only [Act.put,xa,xb,xc];refine wpAnyH_take (i:=19) (oi:=_) (v:=?_) (by simp only [List.getElem?_toArray,List.getElem?_cons_succ,List.getElem?_cons_zero];rfl) (by kernel_rfl) (by kernel_rfl) (by kernel_rfl) (fun _ _ _ h=>h) (Or.inl ⟨by rfl,?_⟩) hS ?_;rotate_left;{(intro w' qi;(try dsimp only at qi);have hle:=aa HLE;go_simp;try with_reducible rfl)}
 simp only [Act.put,xa,xb,xc];refine fe 20 21 hS ?_;refine bu ?_;clear hS;go_wp2_with fail;go_meet;exact ⟨rfl,ah BX cR,IX.below cR,NX.below cR⟩};exact AllReadyH.nil})
 obtain ⟨rfl,oI,⟨i0,i1,i2,i3,i4,i5⟩,Q6⟩:=hcut;have uL:=ae Q6;obtain ⟨c0,c1,c2,c3,c4,c5,c6,c7,-,-,-,-,-⟩:=Q6;clear EV HA ud NX IX BX;cases C with
 | true=>
  have eF:B=false:=by rw [hB];rfl
  subst eF;clear hB eC;go_wp2;go_ret;exact ⟨rfl,oI⟩
 | false=>
  rw [Bool.not_false,Bool.true_and] at hB;have HB:=ae hB;clear hB eC;go_wp2_with fail;obtain ⟨pa,pb,pd,epp,Q5,hpm⟩:=uL.k0;simp only [Value.slice.injEq] at epp;obtain ⟨rfl,rfl,rfl⟩:=epp;have I6:Hid (pD wc w.heap.size e g x t (.S p n c) (.S (some ⟨b,o,none⟩) m d)):=⟨i0,i1,i2,i3,i4,i5⟩;have Rl:∀ (vs:Array Value) (w:World),(callFunc 88 vs).run prog w=.ok (.enter 88 vs) w:=fun vs w=>by kernel_rfl
  have HCP:=ae Rl;have la:∀ (vs:Array Value) (w:World),(callFunc 87 vs).run prog w=.ok (.enter 87 vs) w:=fun vs w=>by kernel_rfl
  have Gy:=ae la;have HBN:Hid (bM (dm nd.path)/\∀ nd∈ns,bM nd.path):=⟨mc Kg,fun nd h=>(aa fI nd h).1⟩;clear i0 i1 i2 i3 i4 i5 c0 c1 c2 c3 c4 c5 c6 c7 Rl la;obtain ⟨C2,eC2⟩:=aH (dw ns (dm nd.path));have EC2:=ae eC2;obtain ⟨C3,Sb⟩:∃ C3,(!(C2&&decide (nd.value.length<=40)))=C3:=⟨_,rfl⟩;have jL:B=(!C3&&((nd.owner==0||live ss nd.owner)&&(gq ss nd.holders&&(gq ss nd.watchers&&dN e g nd.mode nd.holders.length nd.aB nd.gen)))):=by rw [aa HB,eC2,<-Sb,Bool.not_not,Bool.and_assoc]
  rw [aa Uk] at Sb;clear eC2 HB
  go_cut [44] (fun rv w'=>rv=.bool C3/\Bw w w'/\pD w' w.heap.size e g x t (.S p n c) (.S (some ⟨b,o,none⟩) m d)/\mY w' (w.heap.size+1) 0 nd (.S pp pn pc) (.S OO vn vc) (.S hp hh hc) (.S up un uc))
  case first =>(
 clear jL;cases C2 with
 | false=>
  have Jm:C3=true:=by rw [<-Sb];rfl
  subst Jm;clear Sb;refine bO (fun w'=>pD w' w.heap.size e g x t (.S p n c) (.S (some ⟨b,o,none⟩) m d)/\w'.cell? ⟨w.heap.size+1,0,none⟩=some (.S pp pn pc)/\w'.cell? ⟨w.heap.size+1,1,none⟩=some (.S OO vn vc)) (by exact ⟨I6,uL.c0,uL.c1⟩) fun hS=>?_;refine fe 0 1 hS ?_;refine tn 2 hS ?_;refine ry [3] ?_;refine cn (fun KK hK=>?_) ?_;{refine gG (by rfl) 88 _ _ (by rfl) (.S pp pn pc) (by rfl) (fun _=>aa HCP _ _) (iS pp pc pn nd.path Bx _ (by exact uL.r0) Mb Q5 hpm) ?_;rintro r w2 ⟨q',m',d',rfl,Ue,To,hr',bk⟩;refine ⟨_,rfl,?_⟩;have cR:Bw wc w2:=ah (Below.refl wc.heap.size wc).drew bk;refine cg hK (by exact ⟨I6.below cR,af uL.c0 cR,af uL.c1 cR⟩) fun hS=>?_;clear hK KK;refine bH 4 fun KK hK=>?_;refine ky (by rfl) 87 _ _ _ (by rfl) (cY e g x t (.S p n c) (.S (some ⟨b,o,none⟩) m d)) (.S q' m' d') (by rfl) (by rfl) (fun _=>aa Gy _ _) (iu e g x t _ q' d m d' m' _ ns (dm nd.path) em Ue _ (aa HR _ (ah oI cR)).2 hr' hm (by omega) HBN false EC2) ?_;rintro r w3 ⟨rfl,dA⟩;refine ⟨_,rfl,?_⟩;have gL:Bw wc w3:=ah cR dA;refine cg hK (by exact ⟨I6.below gL,af uL.c0 gL,af uL.c1 gL⟩) fun hS=>?_;clear hK KK;refine fe 5 6 hS ?_;refine iI 7 8 9 10 hS ?_;refine tn 11 hS ?_;refine bu ?_;clear hS;go_wp2_with fail;go_meet;exact ⟨rfl,ah oI gL,I6.below gL,uL.below gL⟩};exact AllReadyH.nil
 | true=>
  by_cases h40:vn<=40;{
 have Jm:C3=false:=by rw [<-Sb];simp [h40]
 subst Jm;have aS0:¬ (40:Int)<(vn:Int):=by omega
 clear Sb;refine bO (fun w'=>pD w' w.heap.size e g x t (.S p n c) (.S (some ⟨b,o,none⟩) m d)/\w'.cell? ⟨w.heap.size+1,0,none⟩=some (.S pp pn pc)/\w'.cell? ⟨w.heap.size+1,1,none⟩=some (.S OO vn vc)) (by exact ⟨I6,uL.c0,uL.c1⟩) fun hS=>?_;refine fe 0 1 hS ?_;refine tn 2 hS ?_;refine bH 3 fun KK hK=>?_;refine gG (by rfl) 88 _ _ (by rfl) (.S pp pn pc) (by rfl) (fun _=>aa HCP _ _) (iS pp pc pn nd.path Bx _ (by exact uL.r0) Mb Q5 hpm) ?_;rintro r w2 ⟨q',m',d',rfl,Ue,To,hr',bk⟩;refine ⟨_,rfl,?_⟩;have cR:Bw wc w2:=ah (Below.refl wc.heap.size wc).drew bk;refine cg hK (by exact ⟨I6.below cR,af uL.c0 cR,af uL.c1 cR⟩) fun hS=>?_;clear hK KK;refine bH 4 fun KK hK=>?_;refine ky (by rfl) 87 _ _ _ (by rfl) (cY e g x t (.S p n c) (.S (some ⟨b,o,none⟩) m d)) (.S q' m' d') (by rfl) (by rfl) (fun _=>aa Gy _ _) (iu e g x t _ q' d m d' m' _ ns (dm nd.path) em Ue _ (aa HR _ (ah oI cR)).2 hr' hm (by omega) HBN true EC2) ?_;rintro r w3 ⟨rfl,dA⟩;refine ⟨_,rfl,?_⟩;have gL:Bw wc w3:=ah cR dA;refine cg hK (by exact ⟨I6.below gL,af uL.c0 gL,af uL.c1 gL⟩) fun hS=>?_;clear hK KK;refine gC 5 6 7 8 hS ?_;refine fe 9 10 hS ?_;refine tn 11 hS ?_;refine bu ?_;clear hS;go_wp2_with fail;go_meet;exact ⟨rfl,ah oI gL,I6.below gL,uL.below gL⟩};{
 have Jm:C3=true:=by rw [<-Sb];simp [h40]
 subst Jm;have aS0:=ja 40 vn;clear Sb;refine bO (fun w'=>pD w' w.heap.size e g x t (.S p n c) (.S (some ⟨b,o,none⟩) m d)/\w'.cell? ⟨w.heap.size+1,0,none⟩=some (.S pp pn pc)/\w'.cell? ⟨w.heap.size+1,1,none⟩=some (.S OO vn vc)) (by exact ⟨I6,uL.c0,uL.c1⟩) fun hS=>?_;refine fe 0 1 hS ?_;refine tn 2 hS ?_;refine ry [3] ?_;refine cn (fun KK hK=>?_) ?_;{refine gG (by rfl) 88 _ _ (by rfl) (.S pp pn pc) (by rfl) (fun _=>aa HCP _ _) (iS pp pc pn nd.path Bx _ (by exact uL.r0) Mb Q5 hpm) ?_;rintro r w2 ⟨q',m',d',rfl,Ue,To,hr',bk⟩;refine ⟨_,rfl,?_⟩;have cR:Bw wc w2:=ah (Below.refl wc.heap.size wc).drew bk;refine cg hK (by exact ⟨I6.below cR,af uL.c0 cR,af uL.c1 cR⟩) fun hS=>?_;clear hK KK;refine bH 4 fun KK hK=>?_;refine ky (by rfl) 87 _ _ _ (by rfl) (cY e g x t (.S p n c) (.S (some ⟨b,o,none⟩) m d)) (.S q' m' d') (by rfl) (by rfl) (fun _=>aa Gy _ _) (iu e g x t _ q' d m d' m' _ ns (dm nd.path) em Ue _ (aa HR _ (ah oI cR)).2 hr' hm (by omega) HBN true EC2) ?_;rintro r w3 ⟨rfl,dA⟩;refine ⟨_,rfl,?_⟩;have gL:Bw wc w3:=ah cR dA;refine cg hK (by exact ⟨I6.below gL,af uL.c0 gL,af uL.c1 gL⟩) fun hS=>?_;clear hK KK;refine gC 5 6 7 8 hS ?_;refine fe 9 10 hS ?_;refine tn 11 hS ?_;refine bu ?_;clear hS;go_wp2_with fail;go_meet;exact ⟨rfl,ah oI gL,I6.below gL,uL.below gL⟩};exact AllReadyH.nil})
  obtain ⟨rfl,hbd,⟨i0,i1,i2,i3,i4,i5⟩,ab2⟩:=hcut;have rn:=ae ab2;obtain ⟨c0,c1,c2,c3,c4,c5,c6,c7,-,-,-,-,-⟩:=ab2;clear I6 uL HCP Gy HBN EC2 Sb;cases C3 with
  | true=>
   have eF:B=false:=by rw [jL];rfl
   subst eF;clear jL;go_wp2;go_ret;exact ⟨rfl,hbd⟩
  | false=>
   rw [Bool.not_false,Bool.true_and] at jL;obtain ⟨ow,eo⟩:=aH nd.owner;rw [eo] at jL c2;clear eo;by_cases ho:ow=0;{
 subst ho;have ra:Hid (B=(gq ss nd.holders&&(gq ss nd.watchers&&dN e g nd.mode nd.holders.length nd.aB nd.gen))):=jL;clear jL;obtain ⟨T1,Xb⟩:=aH (gq ss nd.holders);obtain ⟨T2,Nw⟩:=aH (gq ss nd.watchers);obtain ⟨T3,Nu⟩:=aH (dN e g nd.mode hh nd.aB nd.gen);have ET1:=ae Xb;have ET2:=ae Nw;have ET3:=ae Nu;have Em:Hid (B=(T1&&(T2&&T3))):=by show _=_;rw [aa ra,Xb,Nw,aa Gi,Nu]
 clear Xb Nw Nu ra;go_wp2_with fail;refine (kW e g x t p hp c n hc hh _ ss nd.holders en Gi _ (aa HR _ hbd).1 rn.r4 hn J4 T1 ET1).mono ?_;rintro r wa ⟨rfl,oK⟩;have Ba:=ah hbd oK;have HNa:=ae (rn.below oK);cases T1 with
 | false=>
  have eF:B=false:=by rw [aa Em];rfl
  subst eF;clear Em;go_wp2;go_ret;exact ⟨rfl,Ba⟩
 | true=>
  have a0:=af i0 oK;have a1:=af i1 oK;have a2:=af i2 oK;have a3:=af i3 oK;have a4:=af i4 oK;have a5:=af i5 oK;have d0:=af c0 oK;have d1:=af c1 oK;have d2:=af c2 oK;have d3:=af c3 oK;have d4:=af c4 oK;have d5:=af c5 oK;have d6:=af c6 oK;have d7:=af c7 oK;clear i0 i1 i2 i3 i4 i5 c0 c1 c2 c3 c4 c5 c6 c7 oK;go_wp2_with fail;refine (kW e g x t p up c n uc un _ ss nd.watchers en Jk _ (aa HR _ Ba).1 HNa.r7 hn JX T2 ET2).mono ?_;rintro r wb ⟨rfl,kO⟩;have Bb:=ah Ba kO;cases T2 with
  | false=>
   have eF:B=false:=by rw [aa Em];rfl
   subst eF;clear Em;go_wp2;go_ret;exact ⟨rfl,Bb⟩
  | true=>
   have eT:B=T3:=by rw [aa Em];rfl
   subst eT;have f0:=af a0 kO;have f1:=af a1 kO;have f2:=af a2 kO;have f3:=af a3 kO;have f4:=af a4 kO;have f5:=af a5 kO;have g0:=af d0 kO;have g1:=af d1 kO;have g2:=af d2 kO;have g3:=af d3 kO;have g4:=af d4 kO;have g5:=af d5 kO;have g6:=af d6 kO;have g7:=af d7 kO;clear a0 a1 a2 a3 a4 a5 d0 d1 d2 d3 d4 d5 d6 d7 kO Em;go_wp2_with fail;refine (rW e g x t _ nd.mode nd.aB nd.gen _ _ _ _ _ hp hc hh _ J4 B ET3).mono ?_;rintro r wd ⟨rfl,MG⟩;have Bd:=ah Bb MG;clear MG f0 f1 f2 f3 f4 f5 g0 g1 g2 g3 g4 g5 g6 g7;go_wp2;go_ret;exact ⟨rfl,Bd⟩};{
 have hod:(ow==0)=false:=by simp [ho]
 have bQ7:(ow != 0)=true:=by simp [ho]
 rw [hod,Bool.false_or] at jL;obtain ⟨L,eL⟩:=aH (live ss ow);have EL:Hid ((ss.any fun s=>s.1==ow)=L):=eL;rw [eL] at jL;have ra:=ae jL;clear jL eL;go_wp2_with fail;refine (kG e g x t p c n _ ss en _ (aa HR _ hbd).1 hn ow L EL).mono ?_;rintro r w2 ⟨rfl,bk⟩;have b2:=ah hbd bk;cases L with
 | false=>
  have eF:B=false:=by rw [aa ra];rfl
  subst eF;clear ra;go_wp2;go_ret;exact ⟨rfl,b2⟩
 | true=>
  have ra:Hid (B=(gq ss nd.holders&&(gq ss nd.watchers&&dN e g nd.mode nd.holders.length nd.aB nd.gen))):=aa ra;have Uz:=ae (rn.below bk);replace i0:=af i0 bk;replace i1:=af i1 bk;replace i2:=af i2 bk;replace i3:=af i3 bk;replace i4:=af i4 bk;replace i5:=af i5 bk;replace c0:=af c0 bk;replace c1:=af c1 bk;replace c2:=af c2 bk;replace c3:=af c3 bk;replace c4:=af c4 bk;replace c5:=af c5 bk;replace c6:=af c6 bk;replace c7:=af c7 bk;clear bk;obtain ⟨T1,Xb⟩:=aH (gq ss nd.holders);obtain ⟨T2,Nw⟩:=aH (gq ss nd.watchers);obtain ⟨T3,Nu⟩:=aH (dN e g nd.mode hh nd.aB nd.gen);have ET1:=ae Xb;have ET2:=ae Nw;have ET3:=ae Nu;have Em:Hid (B=(T1&&(T2&&T3))):=by show _=_;rw [aa ra,Xb,Nw,aa Gi,Nu]
  clear Xb Nw Nu ra;go_wp2_with fail;refine (kW e g x t p hp c n hc hh _ ss nd.holders en Gi _ (aa HR _ b2).1 Uz.r4 hn J4 T1 ET1).mono ?_;rintro r wa ⟨rfl,oK⟩;have Ba:=ah b2 oK;have HNa:=ae (Uz.below oK);cases T1 with
  | false=>
   have eF:B=false:=by rw [aa Em];rfl
   subst eF;clear Em;go_wp2;go_ret;exact ⟨rfl,Ba⟩
  | true=>
   have a0:=af i0 oK;have a1:=af i1 oK;have a2:=af i2 oK;have a3:=af i3 oK;have a4:=af i4 oK;have a5:=af i5 oK;have d0:=af c0 oK;have d1:=af c1 oK;have d2:=af c2 oK;have d3:=af c3 oK;have d4:=af c4 oK;have d5:=af c5 oK;have d6:=af c6 oK;have d7:=af c7 oK;clear i0 i1 i2 i3 i4 i5 c0 c1 c2 c3 c4 c5 c6 c7 oK;go_wp2_with fail;refine (kW e g x t p up c n uc un _ ss nd.watchers en Jk _ (aa HR _ Ba).1 HNa.r7 hn JX T2 ET2).mono ?_;rintro r wb ⟨rfl,kO⟩;have Bb:=ah Ba kO;cases T2 with
   | false=>
    have eF:B=false:=by rw [aa Em];rfl
    subst eF;clear Em;go_wp2;go_ret;exact ⟨rfl,Bb⟩
   | true=>
    have eT:B=T3:=by rw [aa Em];rfl
    subst eT;have f0:=af a0 kO;have f1:=af a1 kO;have f2:=af a2 kO;have f3:=af a3 kO;have f4:=af a4 kO;have f5:=af a5 kO;have g0:=af d0 kO;have g1:=af d1 kO;have g2:=af d2 kO;have g3:=af d3 kO;have g4:=af d4 kO;have g5:=af d5 kO;have g6:=af d6 kO;have g7:=af d7 kO;clear a0 a1 a2 a3 a4 a5 d0 d1 d2 d3 d4 d5 d6 d7 kO Em;go_wp2_with fail;refine (rW e g x t _ nd.mode nd.aB nd.gen _ _ _ _ _ hp hc hh _ J4 B ET3).mono ?_;rintro r wd ⟨rfl,MG⟩;have Bd:=ah Bb MG;clear MG f0 f1 f2 f3 f4 f5 g0 g1 g2 g3 g4 g5 g6 g7;go_wp2;go_ret;exact ⟨rfl,Bd⟩}
def jY (e g x t:Int) (ss:List aY) (ns:List aD):Bool:=
 decide (e<=4611686018427387904/\g<=4611686018427387904/\x<=4611686018427387904/\0<=t/\t<=1000000/\ss.length<=50/\ns.length<=200)&&((List.range ss.length).all (jy x ss)&&(List.range ns.length).all (iP e g ss ns))
theorem Az (e g x t:Int) (p q:Option Addr) (c n d m:Nat) (ss:List aY) (ns:List aD) (en:Hid (ss.length=n)) (em:Hid (ns.length=m)) (w:World) (h:uJ w (.S p n c) ss) (hN:kJ w (.S q m d) ns) (hn:n<=1048576) (hm:m<=1048576)
  (nO:Hid (∀ s∈ss,s.2.2.length<=1048576/\∀ e∈s.2.2,bM e.2/\e.2.length<=1048576))
  (fI:Hid (∀ nd∈ns,bM nd.path/\nd.path.length<=1048576/\nd.value.length<=1048576/\nd.holders.length<=1048576/\nd.watchers.length<=1048576)) (B:Bool) (eB:Hid (jY e g x t ss ns=B)) :
  Calls prog 9 #[cY e g x t (.S p n c) (.S q m d)] w fun r w'=>r=.returned (.bool B)/\Bw w w':=by
 have HR:=ae fun (w':World) (hb:Bw w w')=>ag (h.below hb) (hN.below hb);have b1:Bw w (w.alloc (.cells #[.U e,.U g,.U x,.I t,.S p n c,.S q m d] 27)):=aJ.alloc aA _;have hB:B=(decide (e<=4611686018427387904/\g<=4611686018427387904/\x<=4611686018427387904/\0<=t/\t<=1000000/\n<=50/\m<=200)&&((List.range n).all (jy x ss)&&(List.range m).all (iP e g ss ns))):=by rw [<-aa eB,jY,aa en,aa em]
 have HB:=ae hB;clear h hN hB eB;by_cases h0:4611686018427387904<e;{
 have eF:B=false:=by rw [aa HB,Bool.and_eq_false_iff];exact .inl (decide_eq_false (fun hh=>by omega))
 subst eF;clear HB;go_enter func9,ntmps9;go_wp2;go_ret;exact ⟨rfl,b1⟩};{
 have q0:e<=4611686018427387904:=by omega
 by_cases h1:4611686018427387904<g;{
 have eF:B=false:=by rw [aa HB,Bool.and_eq_false_iff];exact .inl (decide_eq_false (fun hh=>by omega))
 subst eF;clear HB;go_enter func9,ntmps9;go_wp2;go_ret;exact ⟨rfl,b1⟩};{
 have q1:g<=4611686018427387904:=by omega
 by_cases h2:4611686018427387904<x;{
 have eF:B=false:=by rw [aa HB,Bool.and_eq_false_iff];exact .inl (decide_eq_false (fun hh=>by omega))
 subst eF;clear HB;go_enter func9,ntmps9;go_wp2;go_ret;exact ⟨rfl,b1⟩};{
 have q2:x<=4611686018427387904:=by omega
 by_cases h3:t<0;{
 have eF:B=false:=by rw [aa HB,Bool.and_eq_false_iff];exact .inl (decide_eq_false (fun hh=>by omega))
 subst eF;clear HB;go_enter func9,ntmps9;go_wp2;go_ret;exact ⟨rfl,b1⟩};{
 have q3:0<=t:=by omega
 by_cases h4:1000000<t;{
 have eF:B=false:=by rw [aa HB,Bool.and_eq_false_iff];exact .inl (decide_eq_false (fun hh=>by omega))
 subst eF;clear HB;go_enter func9,ntmps9;go_wp2;go_ret;exact ⟨rfl,b1⟩};{
 have q4:t<=1000000:=by omega
 by_cases h5:(50:Int)<(n:Int);{
 have eF:B=false:=by rw [aa HB,Bool.and_eq_false_iff];exact .inl (decide_eq_false (fun hh=>by omega))
 subst eF;clear HB;go_enter func9,ntmps9;go_wp2;go_ret;exact ⟨rfl,b1⟩};{
 have q5:n<=50:=by omega
 by_cases h6:(200:Int)<(m:Int);{
 have eF:B=false:=by rw [aa HB,Bool.and_eq_false_iff];exact .inl (decide_eq_false (fun hh=>by omega))
 subst eF;clear HB;go_enter func9,ntmps9;go_wp2;go_ret;exact ⟨rfl,b1⟩};{
 have q6:m<=200:=by omega
 have qv:Hid (B=((List.range n).all (jy x ss)&&(List.range m).all (iP e g ss ns))):=by show _=_;rw [aa HB,decide_eq_true ⟨q0,q1,q2,q3,q4,q5,q6⟩,Bool.true_and]
 clear HB;go_enter func9,ntmps9;go_wp2_with fail;obtain ⟨W,hW⟩:=ax (w.alloc (.cells #[.U e,.U g,.U x,.I t,.S p n c,.S q m d] 27));have Pa:pD W w.heap.size e g x t (.S p n c) (.S q m d):=by rw [hW];simp [pD]
 rw [<-hW] at b1 ⊢;clear hW;have BW:=ae b1;have Pz:=ae Pa;clear b1 Pa;clear h0 h1 h2 h3 h4 h5 h6 q0 q1 q2 q3 q4 q5 q6
 go_loopw [3] (fun iv wr=>∃ k:Nat,k<=n/\iv=.I k/\Hid ((List.range k).all (jy x ss)=true)/\Bw W wr) (fun iv _=>n-(intOf iv).toNat)
 case atStart=>exact ⟨0,Nat.zero_le _,rfl,(by show _=_;rfl),Below.refl _ _⟩
 case round =>(
 obtain ⟨k,hk,rfl,iJ,aR⟩:=hrel;have BB:=ah BW aR;obtain ⟨i0,i1,i2,i3,i4,i5⟩:=Pz.below aR;by_cases bj:k<n;{
 have bm:=aT k n;obtain ⟨T,eT⟩:=aH (jy x ss k);have ET:=ae eT;go_wp2_with fail;refine (uQ e g x t p c n k _ ss en _ (aa HR _ BB).1 hn bj nO T ET).mono ?_;rintro r w2 ⟨rfl,bk⟩;clear i0 i1 i2 i3 i4 i5;cases T with
 | false=>
  have eF:B=false:=by rw [aa qv,dK bj eT];rfl
  subst eF;have b2:=ah BB bk;clear qv eT bk;go_wp2;go_ret;exact ⟨rfl,b2⟩
 | true=>
  have sT:=ae (cM iJ eT);have b2:=ah aR bk;clear eT bk BB;go_wp2;go_roundw
  case rel=>exact ⟨k+1,by omega,by go_num,sT,b2⟩
  case measure=>simp [intOf];omega}
 {
 have bm:=dy k n;have Ex:k=n:=by omega
 have ra:Hid (B=(List.range m).all (iP e g ss ns)):=by show _=_;rw [aa qv,show (List.range n).all (jy x ss)=true from Ex▸aa iJ,Bool.true_and]
 have HC7:=ae (Pz.below aR);clear qv Ex iJ;go_wp2_with fail;clear i0 i1 i2 i3 i4 i5;obtain ⟨Y,eY⟩:=ax wr;subst eY;have BY:=ae BB;clear BB aR bj bm hk
 go_loopw [4] (fun iv wr=>∃ k:Nat,k<=m/\iv=.I k/\Hid ((List.range k).all (iP e g ss ns)=true)/\Bw Y wr) (fun iv _=>m-(intOf iv).toNat)
 case atStart=>exact ⟨0,Nat.zero_le _,rfl,(by show _=_;rfl),Below.refl _ _⟩
 case round =>(
 obtain ⟨j,hk,rfl,iJ,aR⟩:=hrel;have BB:=ah BY aR;obtain ⟨i0,i1,i2,i3,i4,i5⟩:=HC7.below aR;by_cases bj:j<m;{
 have bm:=aT j m;obtain ⟨T,eT⟩:=aH (iP e g ss ns j);have ET:=ae eT;go_wp2_with fail;refine (AX e g x t p q c n d m j ss ns en em _ (aa HR _ BB).1 (aa HR _ BB).2 hn hm bj fI T ET).mono ?_;rintro r w2 ⟨rfl,bk⟩;clear i0 i1 i2 i3 i4 i5;cases T with
 | false=>
  have eF:B=false:=by rw [aa ra];exact dK bj eT
  subst eF;have b2:=ah BB bk;clear ra eT bk;go_wp2;go_ret;exact ⟨rfl,b2⟩
 | true=>
  have sT:=ae (cM iJ eT);have b2:=ah aR bk;clear eT bk BB;go_wp2;go_roundw
  case rel=>exact ⟨j+1,by omega,by go_num,sT,b2⟩
  case measure=>simp [intOf];omega}
 {
 have bm:=dy j m;have ekm:j=m:=by omega
 have eT:B=true:=by rw [aa ra,<-ekm];exact aa iJ
 subst eT;clear ra ekm iJ;go_wp2;go_ret;exact ⟨rfl,BB⟩})})}}}}}}}
def yL (x y:Int):Int:=if x<y then -1 else if y<x then 1 else 0
theorem zJ (x:Int) (w:World):Calls prog 157 #[.U x] w fun e w'=>e=.returned (.bool false)/\w'=w:=by
 go_enter func157,ntmps157;go_wp2;go_ret;refine ⟨?_,rfl⟩;simp
theorem sH (x y:Int) (w:World):Calls prog 116 #[.U x,.U y] w fun e w'=>e=.returned (.I (yL x y))/\w'=w:=by
 obtain ⟨C,eC⟩:=aH (yL x y);rw [eC];have EC:=ae eC;clear eC;go_enter func116,ntmps116;go_wp2_with fail;refine (zJ x w).mono ?_;rintro e w1 ⟨rfl,rfl⟩;go_wp2_with fail;refine (zJ y _).mono ?_;rintro e w2 ⟨rfl,rfl⟩;by_cases h1:x<y;{
 have e1:C=-1:=by rw [<-aa EC];rw [yL,if_pos h1]
 subst e1;go_wp2;go_ret;exact ⟨rfl,rfl⟩};{
 by_cases h2:y<x;{
 have e1:C=1:=by rw [<-aa EC];rw [yL,if_neg h1,if_pos h2]
 subst e1;go_wp2;go_ret;exact ⟨rfl,rfl⟩};{
 have e1:C=0:=by rw [<-aa EC];rw [yL,if_neg h1,if_neg h2]
 subst e1;go_wp2;go_ret;exact ⟨rfl,rfl⟩}}
theorem uk {p:Option Addr} (h:Rd w (.S p l.length c) l):(Extern.Bytes.bytesOf (.S p l.length c)).run prog w=.ok ⟨(Lib.bytesOf l).toArray⟩ w:=by
 cases p with
 | none=>
  have e:=h.oz;subst e;simp only [Extern.Bytes.bytesOf,Sem.run_pure]
  rfl
 | some a=>
  obtain ⟨n1,n2,n3⟩:=h.news;have:=Lib.run_loadBytesX (P:=prog) w l a .empty (fun j x hj=>n2 j _ (by rw [List.getElem?_map,hj];rfl));simp only [Extern.Bytes.bytesOf];rw [this]
  congr 1
  apply ByteArray.ext;simp
theorem KQ {p q:Option Addr} {d:Nat} {m:List Int} (h:Rd w (.S p l.length c) l) (k:Rd w (.S q m.length d) m) :
  (Extern.BytealgCompare.compare #[.S p l.length c,.S q m.length d]).run prog w=.ok (.I (Lib.compareBytes (Lib.bytesOf l) (Lib.bytesOf m))) w:=by
 change Sem.run prog (do pure (goInt (Extern.BytealgCompare.cmp (<-Extern.Bytes.bytesOf (.S p l.length c)) (<-Extern.Bytes.bytesOf (.S q m.length d))))) w=_
 simp only [Sem.run_bind,uk h,uk k,Sem.run_pure,Result.andThen];rw [Lib.cmp_eq]
 rfl
def NP (l m:List Int):Int:=Lib.compareBytes (Lib.bytesOf l) (Lib.bytesOf m)
theorem ab0:∀ (a b:List UInt8),(0<=Lib.compareBytes a b)=(Op.bytesLess b a=true\/b=a)
 | [],[]=>by simp [Lib.compareBytes]
 | [],_::_=>by simp [Lib.compareBytes,Op.bytesLess]
 | _::_,[]=>by simp [Lib.compareBytes,Op.bytesLess]
 | x::a,y::b=>by
  have ih:=ab0 a b;rw [Lib.compareBytes,Op.bytesLess];by_cases h1:x<y;{
 have h2:¬ y<x:=fun h=>UInt8.lt_irrefl _ (UInt8.lt_trans h1 h);have h3:¬ y=x:=fun h=>by subst h;exact UInt8.lt_irrefl _ h1
 simp [h1,h2,h3]};{by_cases h2:y<x;{simp [h1,h2]};{have h3:y=x:=UInt8.le_antisymm (UInt8.not_lt.1 h1) (UInt8.not_lt.1 h2);subst h3;simp only [h1,if_false,ih];simp}}
theorem Si (l m:List Int):decide (0<=NP l m)=leB m l:=by
 rw [leB,dR,dR,Bool.eq_iff_iff,decide_eq_true_iff,NP,ab0];simp only [Bool.or_eq_true,beq_iff_eq];exact Iff.rfl
theorem BH (p q:Option Addr) (c d n k:Nat) (l m:List Int) (el:Hid (l.length=n)) (em:Hid (m.length=k)) (w:World) (h1:Rd w (.S p n c) l) (h2:Rd w (.S q k d) m) :
  Calls prog 120 #[.S p n c,.S q k d] w fun e w'=>e=.returned (.I (NP l m))/\w'=w:=by
 have e1:=aa el;have e2:=aa em;subst e1 e2;go_enter func120,ntmps120;go_wp2;rw [run_callFunc_extern func161 (by kernel_rfl) (by kernel_rfl) (by kernel_rfl) (e:=Extern.BytealgCompare.compare) (by kernel_rfl),KQ h1 h2];simp only [Result.andThen];rw [Oper.upon_value];go_wp2;go_ret;exact ⟨rfl,rfl⟩
theorem oq {P:Program} {ops:Array Oper} {o:Oper} {a:Act} {K:Act->World->Prop} {Q:Exit->Act->World->Prop} {E:Prop} {R:Ending->World->Prop} (jK:o.guard=none) (f:FuncId) (x0 x1 x2:Operand) (Cq:Array TypeId)
  (ho:o.op=.call { callee:=.value x0,args:=#[x1,x2],argTypes:=Cq }) (v1 v2:Value) (h0:a.eval x0=.func (.func f) #[] #[]) (h1:a.eval x1=v1) (h2:a.eval x2=v2) (ve:∀ vs,(callFunc f vs).run P w=.ok (.enter f vs) w) (hc:Calls P f #[v1,v2] w R) (hR:∀ e w',R e w'->∃ v,e=.returned v/\K (a.put o.dst v) w') :
  if Region.wanted o (yielded ops a.tmps)=true then Oper.wp P o a w K Q else E:=by
 have hw:Region.wanted o (yielded ops a.tmps)=true:=by simp [Region.wanted,jK]
 rw [if_pos hw];have cK:(execOp a.eval o).run P w=.ok (.enter f #[v1,v2]) w:=by subst h1 h2;unfold execOp;simp [ho,resolve,invoke,ve,h0,Deferred.ofValue,Sem.run_bind,Sem.run_pure,Result.andThen]
 show o.upon P a K Q _;rw [cK,Oper.upon_enter];refine hc.mono ?_;intro e w' h;obtain ⟨v,rfl,hk⟩:=hR e w' h;exact hk
end Go.Proofs.YtcfcafeciggjeaaGreatDoor
