import Derived.Test.YtmfjiolopcbcmaaGreatDoorK1
import Derived.Test.YtmfjiolopcbcmaaGreatDoorGC
namespace Go.Proofs.YtmfjiolopcbcmaaGreatDoor
set_option maxHeartbeats 1600000
set_option linter.unusedVariables false
set_option linter.unusedSimpArgs false
set_option maxRecDepth 100000
open Go.ChangeShapes Go.WideShapes Go.ChangeAt Go.RowKit Go.Proofs.Tryz
variable {b:Nat} {w w':World}
abbrev qx (k s:Int) (P:Value) (f:Int) (V:Value) (e g:Int):Value:=.agg #[.int .i64 k,.int .u64 s,P,.int .i64 f,V,.int .u64 e,.int .u64 g]
abbrev mg (w:World) (b:Nat) (v0 v1 v2 v3 v4 v5 v6:Value):Prop:=w.cell? ⟨b,0,none⟩=some v0/\w.cell? ⟨b,1,none⟩=some v1/\w.cell? ⟨b,2,none⟩=some v2/\w.cell? ⟨b,3,none⟩=some v3/\w.cell? ⟨b,4,none⟩=some v4/\w.cell? ⟨b,5,none⟩=some v5/\w.cell? ⟨b,6,none⟩=some v6
theorem mg.below {v0 v1 v2 v3 v4 v5 v6:Value} (h:mg w b v0 v1 v2 v3 v4 v5 v6) (hb:Below w.heap.size w w'):mg w' b v0 v1 v2 v3 v4 v5 v6:=
 ⟨af h.1 hb,af h.2.1 hb,af h.2.2.1 hb,af h.2.2.2.1 hb,af h.2.2.2.2.1 hb,af h.2.2.2.2.2.1 hb,af h.2.2.2.2.2.2 hb⟩
theorem lZ (h:∀ o,w.frozen? ⟨b,o,none⟩=false) (hl:b<w.heap.size) (hb:Below w.heap.size w w'):∀ o,w'.frozen? ⟨b,o,none⟩=false:=fun o=>(hb.frozen (p:=⟨b,o,none⟩) hl).trans (h o)
theorem JE (k s f e g:Int) (p q:Option Addr) (n m c d:Nat) (P V:List Int) (ep:Hid (P.length=n)) (ev:Hid (V.length=m)) (w:World) (hp:Rd w (.slice p n c) P) (hv:Rd w (.slice q m d) V) (hn:n<=1048576) (hm:m<=1048576) :
  Calls prog 8 #[qx k s (.slice p n c) f (.slice q m d) e g] w fun r w'=>∃ p' c' q' d' B,r=.returned (qx k s (.slice p' n c') f (.slice q' m d') e g)/\w.heap.size<=B/\Own w.heap.size w' (.slice p' n c') P/\Btw w.heap.size B (.slice p' n c')/\Own B w' (.slice q' m d') V/\Below w.heap.size w w':=by
 have hR:=ae fun (w':World) (hb:Below w.heap.size w w')=>hp.below hb;have hV:=ae fun (w':World) (hb:Below w.heap.size w w')=>hv.below hb;clear hp hv;go_enter func8,ntmps8;go_wp2_with fail;obtain ⟨W,hW⟩:=ax (((w.alloc (.cells #[.int .i64 k,.int .u64 s,.slice p n c,.int .i64 f,.slice q m d,.int .u64 e,.int .u64 g] 29)).alloc (.cells #[.int .i64 0,.int .u64 0,.slice none 0 0,.int .i64 0,.slice none 0 0,.int .u64 0,.int .u64 0] 43)).alloc (.cells #[.int .i64 k,.int .u64 s,.slice none 0 0,.int .i64 0,.slice none 0 0,.int .u64 0,.int .u64 0] 43));have bW:Below w.heap.size w W:=by rw [hW];exact ((ar.alloc ay _).alloc (by simp) _).alloc (by simp;omega) _
 have zW:W.heap.size=w.heap.size+3:=by rw [hW];simp
 obtain ⟨A,eA⟩:=ax w.heap.size;obtain ⟨R,eR⟩:=ax (A+1);obtain ⟨C,eC⟩:=ax (R+1);have hA:mg W A (.int .i64 k) (.int .u64 s) (.slice p n c) (.int .i64 f) (.slice q m d) (.int .u64 e) (.int .u64 g):=by rw [hW,eA];simp [mg,go_sem]
 have hC:mg W C (.int .i64 k) (.int .u64 s) (.slice none 0 0) (.int .i64 0) (.slice none 0 0) (.int .u64 0) (.int .u64 0):=by rw [hW,eC,eR,eA];simp [mg,go_sem]
 have fC:∀ o,W.frozen? ⟨C,o,none⟩=false:=fun o=>by rw [hW,eC,eR,eA];simp [go_sem]
 have hRR:mg W R (.int .i64 0) (.int .u64 0) (.slice none 0 0) (.int .i64 0) (.slice none 0 0) (.int .u64 0) (.int .u64 0):=by rw [hW,eR,eA];simp [mg,go_sem]
 have fR:∀ o,W.frozen? ⟨R,o,none⟩=false:=fun o=>by rw [hW,eR,eA];simp [go_sem]
 rw [<-hW,<-eA,<-eR,<-eC];clear hW;have HE:=ae (ag eA (ag eR eC));have HZ:=ae zW;refine (rZ p c n P ep _ (aa hR _ bW) hn).mono ?_;rintro r w1 ⟨p',c',rfl,ho,aK⟩;have W8:=hA.below aK;have Jp:=hC.below aK;have fC1:=lZ fC (by omega) aK;have Ve:=hRR.below aK;have fR1:=lZ fR (by omega) aK;have b1:=ai bW aK;have z1:=aK.size;have HO:=ae ho;have HB:=ae b1;have HZ1:=ae z1;have qt:=ae (ag Ve fR1);clear hA hC fC bW ho aK b1 z1 zW eA eC eR hRR fR Ve fR1;obtain ⟨a0,a1,a2,a3,a4,a5,a6⟩:=W8;obtain ⟨c0,c1,c2,c3,c4,c5,c6⟩:=Jp;go_wp2_with fail;obtain ⟨X,hX⟩:=ax ((w1.setCell ⟨C,2,none⟩ (.slice p' n c')).setCell ⟨C,3,none⟩ (.int .i64 f));obtain ⟨eA,eR,eC⟩:=aa HE;have yi:¬ C=A:=by omega
 have CQ:¬ C=R:=by omega
 have zX:X.heap.size=w1.heap.size:=by rw [hX];simp
 have Vn:mg X A (.int .i64 k) (.int .u64 s) (.slice p n c) (.int .i64 f) (.slice q m d) (.int .u64 e) (.int .u64 g):=by rw [hX];simp [mg,go_sem,yi,a0,a1,a2,a3,a4,a5,a6]
 have NL:mg X C (.int .i64 k) (.int .u64 s) (.slice p' n c') (.int .i64 f) (.slice none 0 0) (.int .u64 0) (.int .u64 0):=by rw [hX];simp [mg,go_sem,c0,c1,c2,c3,c4,c5,c6]
 have fC2:∀ o,X.frozen? ⟨C,o,none⟩=false:=fun o=>by rw [hX];simp [fC1]
 have Ic:mg X R (.int .i64 0) (.int .u64 0) (.slice none 0 0) (.int .i64 0) (.slice none 0 0) (.int .u64 0) (.int .u64 0):=by obtain ⟨⟨r0,r1,r2,r3,r4,r5,r6⟩,_⟩:=aa qt;rw [hX];simp [mg,go_sem,CQ,r0,r1,r2,r3,r4,r5,r6]
 have fR2:∀ o,X.frozen? ⟨R,o,none⟩=false:=fun o=>by rw [hX];simp [qt.2]
 have z1:=aa HZ1;have zW:=aa HZ;have bX:Below w.heap.size w X:=by rw [hX];exact (HB.setCell (by simp;omega) _).setCell (by simp;omega) _
 have oX:Own W.heap.size X (.slice p' n c') P:=by rw [hX];exact ownsRow_setCell_below (ownsRow_setCell_below (aa HO) (by simp;omega) _) (by simp;omega) _
 rw [<-hX];clear hX a0 a1 a2 a3 a4 a5 a6 c0 c1 c2 c3 c4 c5 c6 fC1 yi CQ qt;have BX:=ae bX;have OX:=ae oX;refine (rZ q d m V ev _ (aa hV _ bX) hm).mono ?_;rintro r w2 ⟨q',d',rfl,iC,aG⟩;have hA3:=Vn.below aG;have hC3:=NL.below aG;have fC3:=lZ fC2 (by omega) aG;have Fj:=Ic.below aG;have fR3:=lZ fR2 (by omega) aG;have z2:=aG.size;have B2:=ae (ai bX aG);have O1:=ae (Own.below oX aG);have O2:=ae iC;have HZ2:=ae (ag eA (ag (ag eR eC) (ag zX (ag z1 (ag zW z2)))));clear Vn NL fC2 bX oX iC aG eA eC zX z1 zW z2 eR Ic fR2;obtain ⟨a0,a1,a2,a3,a4,a5,a6⟩:=hA3;obtain ⟨c0,c1,c2,c3,c4,c5,c6⟩:=hC3;obtain ⟨r0,r1,r2,r3,r4,r5,r6⟩:=Fj;have yi:¬ C=A:=by obtain ⟨h1,⟨h2,h3⟩,_⟩:=aa HZ2;omega
 have Qt:¬ R=A:=by obtain ⟨h1,⟨h2,h3⟩,_⟩:=aa HZ2;omega
 have CQ:¬ R=C:=by obtain ⟨h1,⟨h2,h3⟩,_⟩:=aa HZ2;omega
 have Qr:¬ C=R:=by obtain ⟨h1,⟨h2,h3⟩,_⟩:=aa HZ2;omega
 go_wp2;obtain ⟨eA,⟨eR,eC⟩,zX,z1,zW,z2⟩:=aa HZ2;refine bodyPost_ret (v:=qx k s (.slice p' n c') f (.slice q' m d') e g) (by simp [results,results8,go_sem,c0,c1,c2,c3,c4,c5,c6,r0,r1,r2,r3,r4,r5,r6,yi,Qt,CQ,Qr]) rfl ⟨p',c',q',d',X.heap.size,rfl,by omega,Own.mono (B:=W.heap.size) ?_ (by omega),?_,?_,?_⟩;{
 repeat (refine ownsRow_setCell_below ?_ (by simp;omega) _)
 exact O1};{intro b hb;have:=OX.lt b hb;omega};{
 repeat (refine ownsRow_setCell_below ?_ (by simp;omega) _)
 exact O2};{
 repeat (refine Below.setCell ?_ (by simp;omega) _)
 exact B2}
theorem Vz (k s f e g:Int) (p q p' q':Option Addr) (n m c d c' d':Nat) (P V:List Int) (ep:Hid (P.length=n)) (ev:Hid (V.length=m)) (w:World) (hp:Rd w (.slice p n c) P) (hv:Rd w (.slice q m d) V) (UC:Rd w (.slice p' n c') P) (rP:Rd w (.slice q' m d') V) (hn:n<=1048576) (hm:m<=1048576) :
  Calls prog 12 #[qx k s (.slice p n c) f (.slice q m d) e g,qx k s (.slice p' n c') f (.slice q' m d') e g] w fun r w'=>r=.returned (.bool true)/\Below w.heap.size w w':=by
 have hR:=ae fun (w':World) (hb:Below w.heap.size w w')=>ag (hp.below hb) (UC.below hb);have hV:=ae fun (w':World) (hb:Below w.heap.size w w')=>ag (hv.below hb) (rP.below hb);have e1:(k != k)=false:=by simp
 have e2:(s != s)=false:=by simp
 have e3:(f != f)=false:=by simp
 have e4:(e != e)=false:=by simp
 have e5:(g != g)=false:=by simp
 go_enter func12,ntmps12;go_wp2_with fail;obtain ⟨W,hW⟩:=ax ((w.alloc (.cells #[.int .i64 k,.int .u64 s,.slice p n c,.int .i64 f,.slice q m d,.int .u64 e,.int .u64 g] 43)).alloc (.cells #[.int .i64 k,.int .u64 s,.slice p' n c',.int .i64 f,.slice q' m d',.int .u64 e,.int .u64 g] 43));have bW:Below w.heap.size w W:=by rw [hW];exact (ar.alloc ay _).alloc (by simp) _
 have hA:mg W w.heap.size (.int .i64 k) (.int .u64 s) (.slice p n c) (.int .i64 f) (.slice q m d) (.int .u64 e) (.int .u64 g):=by rw [hW];simp [mg,go_sem]
 have hC:mg W (w.heap.size+1) (.int .i64 k) (.int .u64 s) (.slice p' n c') (.int .i64 f) (.slice q' m d') (.int .u64 e) (.int .u64 g):=by rw [hW];simp [mg,go_sem]
 rw [<-hW];refine (iM p p' c c' n P ep _ (aa hR _ bW).1 (aa hR _ bW).2 (by omega)).mono ?_;rintro r w1 ⟨rfl,aK⟩;have W8:=hA.below aK;have Jp:=hC.below aK;have B1:=ae (ai bW aK);obtain ⟨a0,a1,a2,a3,a4,a5,a6⟩:=W8;obtain ⟨c0,c1,c2,c3,c4,c5,c6⟩:=Jp;go_wp2_with fail;refine (iM q q' d d' m V ev _ (aa hV _ B1).1 (aa hV _ B1).2 (by omega)).mono ?_;rintro r w2 ⟨rfl,aG⟩;have i5:=af a5 aG;have i6:=af a6 aG;have j5:=af c5 aG;have j6:=af c6 aG;have B2:=ae (ai B1 aG);go_wp2;go_ret;exact ⟨rfl,B2⟩
end Go.Proofs.YtmfjiolopcbcmaaGreatDoor
