import Derived.Test.YtjjnidignljppaaGreatDoorK31
namespace Go.Proofs.YtjjnidignljppaaGreatDoor
set_option maxHeartbeats 4000000
set_option linter.all false
set_option maxRecDepth 100000
open Go.ChangeShapes Go.WideShapes Go.ChangeAt Go.RowKit
variable {LE P V l m m' m1 m2 m3 m4 m5:LI}{NE:Nat}{f k s x:Int}{p:OA}{t t' t1 t2 t3 t4 t5:Bool}
def rW.db{R:Nat}{w w':World}{b:Nat}{v0 v1 v2 v3 v4 v5 v6:Value}(h:rW w b v0 v1 v2 v3 v4 v5 v6)(hk:Kept [blk R] w w')(hb:b<w.heap.size)(cg:b≠R):rW w' b v0 v1 v2 v3 v4 v5 v6:=by
 have e:=hk.cellAt hb (fun x hx e=>by simp only[yx]at hx;subst hx;simp[Value.ownBlock]at e;exact cg e.symm);exact⟨(e 0).trans h.1,(e 1).trans h.2.1,(e 2).trans h.2.2.1,(e 3).trans h.2.2.2.1,(e 4).trans h.2.2.2.2.1,(e 5).trans h.2.2.2.2.2.1,(e 6).trans h.2.2.2.2.2.2⟩
open Go.Proofs.Tryz
abbrev Gu(m:LI)(n:Nat)(t:Bool)(x:Int)(m':LI)(n':Nat)(t':Bool):Prop:=
 ∀(R:Nat)(w':World),qy w' R m n t->Cp 140 #[.pointer (some ⟨R,0,none⟩)] w' fun e w''=>e=.returned (.I x)/\qy w'' R m' n' t'/\Kept [blk R] w' w''
abbrev Ma(m:LI)(n:Nat)(t:Bool)(x:Int)(m':LI)(n':Nat)(t':Bool):Prop:=
 ∀(R:Nat)(w':World),qy w' R m n t->Cp 101 #[.pointer (some ⟨R,0,none⟩)] w' fun e w''=>e=.returned (.U x)/\qy w'' R m' n' t'/\Kept [blk R] w' w''
abbrev PR(m:LI)(n:Nat)(t:Bool)(x:LI)(N:Nat)(m':LI)(n':Nat)(t':Bool):Prop:=
 ∀(R:Nat)(w':World),qy w' R m n t->R<w'.heap.size->Cp 141 #[.pointer (some ⟨R,0,none⟩)] w' fun r w''=>∃p' c',r=.returned (.S p' N c')/\Own w'.heap.size w'' (.S p' N c') x/\qy w'' R m' n' t'/\Kept [blk R] w' w''
theorem Rv{c n:Nat}(en:Hid (l.length=n)){w:World}(h:Rd w (.S p n c) l)(hl:n<=1048576)(vG:n<=c)(hp:Hid ((p=none/\c=0)\/∃b o,p=some ⟨b,o,none⟩))(ji:Hid (∀b o,p=some ⟨b,o,none⟩->b<w.heap.size))(hT:Qv w){n1 n2 n3 n4 n5 NP NV:Nat}(C1:Hid (Gu l n false k m1 n1 t1))(C2:Hid (Ma m1 n1 t1 s m2 n2 t2))(C3:Hid (PR m2 n2 t2 P NP m3 n3 t3))(C4:Hid (Gu m3 n3 t3 f m4 n4 t4))(C5:Hid (PR m4 n4 t4 V NV m5 n5 t5))(eLE:Hid (LE.length=NE))(BL:Hid (aM LE))(HB:Hid (aM l))(E:Hid (Mc 152 w k s f 0 0 NP NV NE P V LE)){D:Bool}(eD:Hid (decide (LE=l)=D))(la:t5=true\/D=false):Cp 110 #[.S p n c] w fun e w'=>e=.returned (.tuple #[ya 0 0 (.S none 0 0) 0 (.S none 0 0) 0 0,.I 13])/\Bw w w':=by
 have HH:=af h;have HT:=af hT;clear h hT;go_enter func110,ntmps110;go_wp2_with fail;obtain⟨W,hW⟩:=au ((w.alloc (.cells #[.I 0,.U 0,.S none 0 0,.I 0,.S none 0 0,.U 0,.U 0] 56)).alloc (.cells #[.S p n c,.bool false] 147));have bW:Bw w W:=by rw[hW];exact gp (gp ay)
 obtain⟨R0,Pq⟩:=au w.heap.size;obtain⟨R,eR⟩:=au (R0+1);have hR0:rW W R0 (.I 0) (.U 0) (.S none 0 0) (.I 0) (.S none 0 0) (.U 0) (.U 0):=by rw[hW,Pq];simp[rW,go_sem]
 have fR0:∀o,W.frozen? ⟨R0,o,none⟩=false:=fun o=>by rw[hW,Pq];simp[go_sem]
 have zW:W.heap.size=R+1:=by rw[hW,eR,Pq];simp
 have hRd:qy W R l n false:=by refine⟨aa en,fun o=>by rw[hW,eR,Pq];simp[go_sem],p,c,?_,?_,vG,aa hp⟩;{rw[hW,eR,Pq];simp[QA,go_sem]};{obtain⟨p',c',ev,hc⟩:=HH.below bW;simp only[dU]at ev;obtain⟨rfl,-,-⟩:=ev;rcases hc with hc|⟨b,o,rfl,hc⟩;{exact .inl hc};{exact .inr ⟨b,o,by have:=aa ji b o rfl;omega,rfl,hc⟩}}
 rw[<-hW,<-Pq,<-eR];clear hW;have HE:=af (ah Pq eR);have g1:R0<R:=ae;have gR0:w.heap.size<=R0:=ae;have gw:w.heap.size<=R:=ae;have zR:R<W.heap.size:=ae;clear Pq eR zW;refine(aa C1 R _ hRd).mono ?_;rintro r w1⟨rfl,oQ,K1⟩;have A1:=hR0.db K1 ae ae;have F1:=ft fR0 K1 ae ae;have b1:=fw bW K1 ae;have z1:=K1.size;clear hR0 fR0 bW K1 hRd;go_wp2_with fail;refine(aa C2 R _ oQ).mono ?_;rintro r w2⟨rfl,UE,K2⟩;have A2:=A1.db K2 ae ae;have F2:=ft F1 K2 ae ae;have b2:=fw b1 K2 ae;have z2:=K2.size;clear A1 F1 b1 K2 oQ;go_wp2_with fail;refine(aa C3 R _ UE ae).mono ?_;rintro r w3⟨p3,c3,rfl,o3,pT,K3⟩;have A3:=A2.db K3 ae ae;have F3:=ft F2 K3 ae ae;have b3:=fw b2 K3 ae;have z3:=K3.size;clear A2 F2 b2 K3 UE;go_wp2_with fail;refine(aa C4 R _ pT).mono ?_;rintro r w4⟨rfl,hR4,K4⟩;have A4:=A3.db K4 ae ae;have F4:=ft F3 K4 ae ae;have b4:=fw b3 K4 ae;have o4:=Own.db o3 K4 ae;have z4:=K4.size;clear A3 F3 b3 K4 pT o3;go_wp2_with fail;refine(aa C5 R _ hR4 ae).mono ?_;rintro r w5⟨p5,c5,rfl,o5,hR5,K5⟩;have A5:=A4.db K5 ae ae;have F5:=ft F4 K5 ae ae;have b5:=fw b4 K5 ae;have o45:=Own.db o4 K5 ae;have z5:=K5.size;clear A4 F4 b4 K5 hR4 o4;obtain⟨_,fr5,pr,cr,⟨i0,i1⟩,_⟩:=hR5;have bo:∀ob:Obj,Bw w5 (w5.alloc ob):=fun ob=>ay.alloc ao _;have qs:=fun ob=>ag i1 (bo ob);have q0:=fun ob=>ag A5.1 (bo ob);have q1:=fun ob=>ag A5.2.1 (bo ob);have q2:=fun ob=>ag A5.2.2.1 (bo ob);have q3:=fun ob=>ag A5.2.2.2.1 (bo ob);have q4:=fun ob=>ag A5.2.2.2.2.1 (bo ob);have q5:=fun ob=>ag A5.2.2.2.2.2.1 (bo ob);have q6:=fun ob=>ag A5.2.2.2.2.2.2 (bo ob);have qf:=fun(ob:Obj)=>cG F5 ae (bo ob);obtain⟨X,hX⟩:=au (w5.alloc (.cells #[.I k,.U s,.S p3 NP c3,.I f,.S p5 NV c5,.U 0,.U 0] 56));have AU:Bw w5 X:=by rw[hX];exact bo _
 have bX:Bw w X:=aj b5 AU;have AX:=A5.below AU;have FX:=cG F5 ae AU;have OX:rW X w5.heap.size (.I k) (.U s) (.S p3 NP c3) (.I f) (.S p5 NV c5) (.U 0) (.U 0):=by rw[hX];simp[rW,go_sem]
 have zX:w5.heap.size<X.heap.size:=by rw[hX];simp
 have xP:=Own.below o45 AU;have xV:=Own.below o5 AU;clear A5 F5 i0 i1 fr5 o45 o5 AU bo;cases t5 with
 |true=>
  clear hX;go_wp2;refine fL (v:=.tuple #[ya 0 0 (.S none 0 0) 0 (.S none 0 0) 0 0,.I 13]) (by simp[results,results110,go_sem,q0,q1,q2,q3,q4,q5,q6]) rfl ⟨rfl,?_⟩
  iterate 7 (refine Av ?_ gR0 _)
  exact gp b5
 |false=>
  have hD:D=false:=by simpa using la
  subst hD;go_wp2_with fail;rw[<-hX];clear hX q0 q1 q2 q3 q4 q5 q6 qf qs la;refine(aa E p3 p5 c3 c5 _ bX xP.rd xV.rd).mono ?_;rintro r x1⟨p6,c6,rfl,o6,jX⟩;have PG:=aj bX jX;have A6:=AX.below jX;have F6:=cG FX ae jX;have zx1:=jX.size;clear AX FX OX xP xV bX jX;go_wp2_with fail;refine(ja eLE en o6.rd (HH.below PG) BL HB).mono ?_;rintro r x2⟨rfl,Sk⟩;rw[aa eD];have bx2:=aj PG Sk;have A7:=A6.below Sk;have F7:=cG F6 ae Sk;clear A6 F6 Sk PG o6;obtain⟨r0,r1,r2,r3,r4,r5,r6⟩:=id A7;go_wp2;refine fL (v:=.tuple #[ya 0 0 (.S none 0 0) 0 (.S none 0 0) 0 0,.I 13]) (by simp[results,results110,go_sem,r0,r1,r2,r3,r4,r5,r6]) rfl ⟨rfl,?_⟩
  iterate 7 (refine Av ?_ gR0 _)
  exact bx2
def Ow{c n:Nat}(en:Hid (l.length=n)){w:World}(h:Rd w (.S p n c) l)(hl:n<=1048576)(vG:n<=c)(hp:Hid ((p=none/\c=0)\/∃b o,p=some ⟨b,o,none⟩))(ji:Hid (∀b o,p=some ⟨b,o,none⟩->b<w.heap.size))(hT:Qv w){n1 n2 n3 n4 n5 NP NV:Nat}(C1:Hid (Gu l n false k m1 n1 t1))(C2:Hid (Ma m1 n1 t1 s m2 n2 t2))(C3:Hid (PR m2 n2 t2 P NP m3 n3 t3))(C4:Hid (Gu m3 n3 t3 f m4 n4 t4))(C5:Hid (PR m4 n4 t4 V NV m5 n5 t5))(eLE:Hid (LE.length=NE))(BL:Hid (aM LE))(HB:Hid (aM l))(E:Hid (Mc 152 w k s f 0 0 NP NV NE P V LE))(eD:Hid (decide (LE=l)=true))(ht5:t5=false):Cp 110 #[.S p n c] w fun r w'=>∃p' c' q' d' B,r=.returned (.tuple #[ya k s (.S p' NP c') f (.S q' NV d') 0 0,.I 0])/\w.heap.size<=B/\Own w.heap.size w' (.S p' NP c') P/\Btw w.heap.size B (.S p' NP c')/\Own B w' (.S q' NV d') V/\Bw w w':=by
 have HH:=af h;have HT:=af hT;clear h hT;go_enter func110,ntmps110;go_wp2_with fail;obtain⟨W,hW⟩:=au ((w.alloc (.cells #[.I 0,.U 0,.S none 0 0,.I 0,.S none 0 0,.U 0,.U 0] 56)).alloc (.cells #[.S p n c,.bool false] 147));have bW:Bw w W:=by rw[hW];exact gp (gp ay)
 obtain⟨R0,Pq⟩:=au w.heap.size;obtain⟨R,eR⟩:=au (R0+1);have hR0:rW W R0 (.I 0) (.U 0) (.S none 0 0) (.I 0) (.S none 0 0) (.U 0) (.U 0):=by rw[hW,Pq];simp[rW,go_sem]
 have fR0:∀o,W.frozen? ⟨R0,o,none⟩=false:=fun o=>by rw[hW,Pq];simp[go_sem]
 have zW:W.heap.size=R+1:=by rw[hW,eR,Pq];simp
 have hRd:qy W R l n false:=by refine⟨aa en,fun o=>by rw[hW,eR,Pq];simp[go_sem],p,c,?_,?_,vG,aa hp⟩;{rw[hW,eR,Pq];simp[QA,go_sem]};{obtain⟨p',c',ev,hc⟩:=HH.below bW;simp only[dU]at ev;obtain⟨rfl,-,-⟩:=ev;rcases hc with hc|⟨b,o,rfl,hc⟩;{exact .inl hc};{exact .inr ⟨b,o,by have:=aa ji b o rfl;omega,rfl,hc⟩}}
 rw[<-hW,<-Pq,<-eR];clear hW;have HE:=af (ah Pq eR);have g1:R0<R:=ae;have gR0:w.heap.size<=R0:=ae;have gw:w.heap.size<=R:=ae;have zR:R<W.heap.size:=ae;clear Pq eR zW;refine(aa C1 R _ hRd).mono ?_;rintro r w1⟨rfl,oQ,K1⟩;have A1:=hR0.db K1 ae ae;have F1:=ft fR0 K1 ae ae;have b1:=fw bW K1 ae;have z1:=K1.size;clear hR0 fR0 bW K1 hRd;go_wp2_with fail;refine(aa C2 R _ oQ).mono ?_;rintro r w2⟨rfl,UE,K2⟩;have A2:=A1.db K2 ae ae;have F2:=ft F1 K2 ae ae;have b2:=fw b1 K2 ae;have z2:=K2.size;clear A1 F1 b1 K2 oQ;go_wp2_with fail;refine(aa C3 R _ UE ae).mono ?_;rintro r w3⟨p3,c3,rfl,o3,pT,K3⟩;have A3:=A2.db K3 ae ae;have F3:=ft F2 K3 ae ae;have b3:=fw b2 K3 ae;have z3:=K3.size;clear A2 F2 b2 K3 UE;go_wp2_with fail;refine(aa C4 R _ pT).mono ?_;rintro r w4⟨rfl,hR4,K4⟩;have A4:=A3.db K4 ae ae;have F4:=ft F3 K4 ae ae;have b4:=fw b3 K4 ae;have o4:=Own.db o3 K4 ae;have tP:=o4.btw;have z4:=K4.size;clear A3 F3 b3 K4 pT o3;go_wp2_with fail;refine(aa C5 R _ hR4 ae).mono ?_;rintro r w5⟨p5,c5,rfl,o5,hR5,K5⟩;have A5:=A4.db K5 ae ae;have F5:=ft F4 K5 ae ae;have b5:=fw b4 K5 ae;have o45:=Own.db o4 K5 ae;have z5:=K5.size;clear A4 F4 b4 K5 hR4 o4;obtain⟨_,fr5,pr,cr,⟨i0,i1⟩,_⟩:=hR5;have bo:∀ob:Obj,Bw w5 (w5.alloc ob):=fun ob=>ay.alloc ao _;have qs:=fun ob=>ag i1 (bo ob);have q0:=fun ob=>ag A5.1 (bo ob);have q1:=fun ob=>ag A5.2.1 (bo ob);have q2:=fun ob=>ag A5.2.2.1 (bo ob);have q3:=fun ob=>ag A5.2.2.2.1 (bo ob);have q4:=fun ob=>ag A5.2.2.2.2.1 (bo ob);have q5:=fun ob=>ag A5.2.2.2.2.2.1 (bo ob);have q6:=fun ob=>ag A5.2.2.2.2.2.2 (bo ob);have qf:=fun(ob:Obj)=>cG F5 ae (bo ob);obtain⟨X,hX⟩:=au (w5.alloc (.cells #[.I k,.U s,.S p3 NP c3,.I f,.S p5 NV c5,.U 0,.U 0] 56));have AU:Bw w5 X:=by rw[hX];exact bo _
 have bX:Bw w X:=aj b5 AU;have AX:=A5.below AU;have FX:=cG F5 ae AU;have OX:rW X w5.heap.size (.I k) (.U s) (.S p3 NP c3) (.I f) (.S p5 NV c5) (.U 0) (.U 0):=by rw[hX];simp[rW,go_sem]
 have zX:w5.heap.size<X.heap.size:=by rw[hX];simp
 have xP:=Own.below o45 AU;have xV:=Own.below o5 AU;clear A5 F5 i0 i1 fr5 o45 o5 AU bo;subst ht5;go_wp2_with fail;rw[<-hX];clear hX q0 q1 q2 q3 q4 q5 q6 qf qs;refine(aa E p3 p5 c3 c5 _ bX xP.rd xV.rd).mono ?_;rintro r x1⟨p6,c6,rfl,o6,jX⟩;have PG:=aj bX jX;have A6:=AX.below jX;have O6:=OX.below jX;have F6:=cG FX ae jX;have zx1:=jX.size;have xP6:=Own.below xP jX;have xV6:=Own.below xV jX;clear AX FX OX xP xV bX jX;go_wp2_with fail;refine(ja eLE en o6.rd (HH.below PG) BL HB).mono ?_;rintro r x2⟨rfl,Sk⟩;rw[aa eD];have bx2:=af (aj PG Sk);have A7:=A6.below Sk;have O7:=O6.below Sk;have F7:=cG F6 ae Sk;have xP7:=af (Own.below xP6 Sk);have xV7:=af (Own.below xV6 Sk);have cg:¬R0=w5.heap.size:=ae;have cd1:¬w5.heap.size=R0:=ae;have iL:R0<w2.heap.size:=ae;have ju:R0<w4.heap.size:=ae;have Xb:w.heap.size<=w2.heap.size:=ae;have Ox:w.heap.size<=w4.heap.size:=ae;have HZ:=af (ah iL (ah ju (ah Xb Ox)));clear A6 O6 F6 Sk PG o6 xP6 xV6 iL ju Xb Ox;obtain⟨r0,r1,r2,r3,r4,r5,r6⟩:=id A7;obtain⟨j0,j1,j2,j3,j4,j5,j6⟩:=id O7;clear A7 O7;go_wp2;obtain⟨iL,ju,Xb,Ox⟩:=aa HZ;refine fL (v:=.tuple #[ya k s (.S p3 NP c3) f (.S p5 NV c5) 0 0,.I 0]) (by simp[results,results110,go_sem,r0,r1,r2,r3,r4,r5,r6]) rfl ⟨p3,c3,p5,c5,w4.heap.size,rfl,Ox,?_,fun b hb=>by have:=tP b hb;omega,?_,?_⟩;{
 refine Own.mono (B:=w2.heap.size) ?_ Xb
 iterate 7 (refine Ky ?_ iL _)
 exact xP7};{
 iterate 7 (refine Ky ?_ ju _)
 exact xV7};{
 iterate 7 (refine Av ?_ gR0 _)
 exact bx2}
def Adr(w:World)(q:OA)(d:Nat):Prop:=((q=none/\d=0)\/∃b o,q=some ⟨b,o,none⟩)/\∀b o,q=some ⟨b,o,none⟩->b<w.heap.size
def Own.adr{B:Nat}{w:World}{q:OA}{n d:Nat}(h:Own B w (.S q n d) l):Adr w q d:=by
 refine⟨?_,fun b o e=>?_⟩;{rcases h.2 with⟨e,h0⟩|⟨g,cap,cur,e,_⟩;{simp only[dU]at e;exact .inl ⟨e.1,e.2.2⟩};{simp only[dU]at e;exact .inr ⟨g,0,e.1⟩}};{subst e;exact(h.lt b rfl).2}
abbrev Gz(F:Nat)(w:World)(l:LI)(n:Nat)(k s f:Int)(P V:LI)(NP NV:Nat)(code:Int):Prop:=
 ∀(q:OA)(d:Nat)(w':World),Bw w w'->Rd w' (.S q n d) l->n<=d->Adr w' q d->Calls Tryz.prog F #[.S q n d] w' fun r w''=>∃p' c' q' d' B,r=.returned (.tuple #[ya k s (.S p' NP c') f (.S q' NV d') 0 0,.I code])/\w'.heap.size<=B/\Own w'.heap.size w'' (.S p' NP c') P/\Btw w'.heap.size B (.S p' NP c')/\Own B w'' (.S q' NV d') V/\Bw w' w''
def af2{F:Nat}{w:World}{n:Nat}(h:∀(q:OA)(d:Nat)(w':World),Bw w w'->Rd w' (.S q n d) l->n<=d->Adr w' q d->Calls Tryz.prog F #[.S q n d] w' fun e w''=>e=.returned (.tuple #[ya 0 0 (.S none 0 0) 0 (.S none 0 0) 0 0,.I 13])/\Bw w' w''):Gz F w l n 0 0 0 [] [] 0 0 13:=
 fun q d w' hb hr hn ha=>(h q d w' hb hr hn ha).mono (by rintro r w''⟨rfl,h2⟩;exact⟨none,0,none,0,w'.heap.size,rfl,jS _,World.ownsRow_nil _ _ _ _,(fun b e=>by simp[Value.ownBlock]at e),World.ownsRow_nil _ _ _ _,h2⟩)
def ap8{k s f:Nat}(hk:k<256)(hs:s<18446744073709551616)(hf:f<256)(hP:aM P)(hV:aM V)(lP:P.length<=1048576)(lV:V.length<=1048576):aM (Dq k s P f V):=
 aM.app (fun z hz=>by simp at hz;subst hz;omega) (aM.app (jY hs) (aM.app (aM.app (jY ae) hP) (aM.app (fun z hz=>by simp at hz;subst hz;omega) (aM.app (jY ae) hV))))
def Iv.parts{K S F:Nat}(h:Iv l K S P F V):P.length<=l.length/\V.length<=l.length:=by
 obtain⟨_,_,_,_,_,_,e⟩:=h;rw[e,Dq,tx,tx];simp only[ig,iU,yr];omega
def ao0{w:World}{n:Nat}(en:l.length=n)(hb:aM l)(hl:n<=1048576)(la:∀K S P F V,¬Iv l K S P F V):Gz 18 w l n 0 0 0 [] [] 0 0 13:=
 af2 fun q d w' Pd hr hn ha=>by obtain⟨⟨k,o1⟩,e1⟩:∃y,oB (some l)=y:=⟨_,rfl⟩;obtain⟨⟨s,o2⟩,e2⟩:∃y,oV o1=y:=⟨_,rfl⟩;obtain⟨⟨P,o3⟩,e3⟩:∃y,oT o2=y:=⟨_,rfl⟩;obtain⟨⟨f,o4⟩,e4⟩:∃y,oB o3=y:=⟨_,rfl⟩;obtain⟨⟨V,o5⟩,e5⟩:∃y,oT o4=y:=⟨_,rfl⟩;exact QS en hr hb hl hn (P:=P) (V:=V) e1 e2 e3 e4 e5 (NP:=P.length) (NV:=V.length) rfl rfl (fun K S F _ _ _=>la K S P F V)
def XO{w:World}{n:Nat}(en:l.length=n)(hb:aM l)(hl:n<=1048576){K S F:Nat}(h:Iv l K S P F V):Gz 18 w l n K S F P V P.length V.length 0:=fun q d w' Pd hr hn ha=>by
 have hp:=h.parts;obtain⟨r1,r2,r3,r4,r5⟩:=Yp (k:=K) (f:=F) (P:=P) (V:=V) h.2.2.1 ae ae;exact MR en hr hb hl hn (k:=K) (s:=S) (f:=F) (P:=P) (V:=V) (by show oB (some l)=_;rw[h.2.2.2.2.2.2];exact r1) r2 r3 r4 r5 (NP:=P.length) (NV:=V.length) rfl rfl (K:=K) (S:=S) (F:=F) rfl rfl rfl rfl h
def Df{n:Nat}(hm:m.length=n)(hb:aM m)(hl:n<=1048576)(e:sB m t=(x,m',t')):Gu m n t x m' m'.length t':=fun R w' h=>Ah h hb hl e
def Nl{n:Nat}(hb:aM m)(hl:n<=1048576)(e:sN 10 0 0 m t=(x,m',t')):Ma m n t x m' m'.length t':=fun R w' h=>eG h hb hl e
def JK{n:Nat}(hb:aM m)(hl:n<=1048576){x:LI}(e:sT m t=(x,m',t')):PR m n t x x.length m' m'.length t':=fun R w' h hR=>DQ h hb hl hR (x:=x) e (N:=x.length) rfl
def ZC{w:World}{n:Nat}(en:l.length=n)(hb:aM l)(hl:n<=1048576)(hT:Qv w){K S F:Nat}(h:Iv l K S P F V):Gz 110 w l n K S F P V P.length V.length 0:=fun q d w' Pd hr hn ha=>by
 have hp:=h.parts;obtain⟨h1,h2,hS,hF,hfm,hj,hdl⟩:=id h;have b1:aM (vi S++(tx P++([(F:Int)]++tx V))):=fun z hz=>hb z (by rw[hdl,Dq];exact CD _ hz);have b2:aM (tx P++([(F:Int)]++tx V)):=fun z hz=>b1 z (CD _ hz);have b3:aM ([(F:Int)]++tx V):=fun z hz=>b2 z (CD _ hz);have b4:aM (tx V):=fun z hz=>b3 z (CD _ hz);have l0:l.length=1+(vi S++(tx P++([(F:Int)]++tx V))).length:=by rw[hdl,Dq,ig];rfl
 have l1:(vi S++(tx P++([(F:Int)]++tx V))).length=(vi S).length+(tx P++([(F:Int)]++tx V)).length:=ig;have l2:(tx P++([(F:Int)]++tx V)).length=(tx P).length+([(F:Int)]++tx V).length:=ig;have l3:([(F:Int)]++tx V).length=1+(tx V).length:=ig;have hTw:Qv w':=fun k a b=>(hT k a b).below Pd;have dh:=hTw K h1 h2;rw[show(rowOf K).2.2.2.2.2.2=true from hj]at dh;have e5:sT (tx V) false=(V,[],false):=by have:=TC V (rest:=[]) (sh:=false) ae;rwa [CE]at this
 refine Ow (p:=q) (c:=d) (n:=n) (l:=l) en (w:=w') hr hl hn ha.1 ha.2 hTw (k:=K) (s:=S) (f:=F) (P:=P) (V:=V) (m5:=[]) (NP:=P.length) (NV:=V.length) (t1:=false) (t2:=false) (t3:=false) (t4:=false) (t5:=false)
  (Df (m':=vi S++(tx P++([(F:Int)]++tx V))) en hb hl (by rw[hdl];rfl)) (Nl b1 ae (Yf (s:=S) (sh:=false) hS)) (JK b2 ae (TC P (sh:=false) ae)) (Df (m':=tx V) rfl b3 ae rfl) (JK b4 ae e5) (LE:=Dq K S P F V) (NE:=(Dq K S P F V).length) rfl (by rw[<-hdl];exact hb) hb ?_ (by show _=_;rw[<-hdl];simp) rfl
 intro q1 q2 d1 d2 w2 aF g1 g2;have Uu:=dh.below aF;exact vE K h1 h2 S F hS hF (e:=0) (g:=0) (p:=q1) (q:=q2) (c:=d1) (d:=d2) P V rfl rfl (w:=w2) g1 g2 ae ae Uu hfm rfl
def ae3{w:World}(hT:Qv w)(s0:0<=s)(s1:s<18446744073709551616)(hP:aM P)(hV:aM V)(lP:P.length<=1048576)(lV:V.length<=1048576):∃LE:LI,aM LE/\Mc 152 w k s f 0 0 P.length V.length LE.length P V LE/\(LE=[]\/∃K S F:Nat,k=K/\s=S/\f=F/\∀l,LE=l->Iv l K S P F V):=by
 by_cases hk:1<=k/\k<=13;{
 obtain⟨S,rfl⟩:∃S:Nat,s=(S:Int):=⟨s.toNat,ae⟩;obtain⟨K,rfl⟩:∃K:Nat,k=(K:Int):=⟨k.toNat,ae⟩;have h1:1<=K:=ae;have h2:K<=13:=ae;by_cases hB:(DA K S f P.length V.length 0 0&&joR K)=true;{obtain⟨hf,hj⟩:=Bool.and_eq_true_iff.1 hB;obtain⟨f0,f2⟩:=FR h1 h2 hf;obtain⟨F,rfl⟩:∃F:Nat,f=(F:Int):=⟨f.toNat,ae⟩;refine⟨Dq K S P F V,ap8 ae ae ae hP hV lP lV,?_,.inr ⟨K,S,F,rfl,rfl,rfl,fun l e=>⟨h1,h2,ae,ae,hf,hj,e.symm⟩⟩⟩;intro q1 q2 d1 d2 w2 aF g1 g2;have Uu:=(hT K h1 h2).below aF;rw[show(rowOf K).2.2.2.2.2.2=true from hj]at Uu;exact vE K h1 h2 S F ae ae P V rfl rfl g1 g2 lP lV Uu hf rfl};{
 have hB':(DA K S f P.length V.length 0 0&&joR K)=false:=by simpa using hB
 refine⟨[],fun z hz=>by simp at hz,ae5 ?_,.inl rfl⟩;intro q1 q2 d1 d2 w' hb;exact KO h1 h2 (s:=S) (f:=f) (e:=0) (g:=0) ((hT K h1 h2).below hb) rfl hB'}};{refine⟨[],fun z hz=>by simp at hz,ae5 ?_,.inl rfl⟩;intro q1 q2 d1 d2 w' hb;exact Hr ae}
def as9{w:World}{n:Nat}(en:l.length=n)(hb:aM l)(hl:n<=1048576)(hT:Qv w)(la:∀K S P F V,¬Iv l K S P F V):Gz 110 w l n 0 0 0 [] [] 0 0 13:=
 af2 fun q d w' Pd hr hn ha=>by
  obtain⟨⟨k,m1,t1⟩,e1⟩:∃y,sB l false=y:=⟨_,rfl⟩;obtain⟨⟨s,m2,t2⟩,e2⟩:∃y,sN 10 0 0 m1 t1=y:=⟨_,rfl⟩;obtain⟨⟨P,m3,t3⟩,e3⟩:∃y,sT m2 t2=y:=⟨_,rfl⟩;obtain⟨⟨f,m4,t4⟩,e4⟩:∃y,sB m3 t3=y:=⟨_,rfl⟩;obtain⟨⟨V,m5,t5⟩,e5⟩:∃y,sT m4 t4=y:=⟨_,rfl⟩;have B1:=Al (sh:=false) hb;rw[e1]at B1;obtain⟨B1,_,_,L1⟩:=B1;have B2:=Ec 10 0 0 m1 t1 B1 ae;rw[e2]at B2;obtain⟨B2,L2,s0,s1⟩:=B2;have B3:=Aj (sh:=t2) B2;rw[e3]at B3;obtain⟨BP,B3,LP,L3⟩:=B3;have B4:=Al (sh:=t3) B3;rw[e4]at B4;obtain⟨B4,_,_,L4⟩:=B4;have B5:=Aj (sh:=t4) B4;rw[e5]at B5;obtain⟨BV,_,LV,_⟩:=B5;dsimp only at B1 L1 B2 L2 s0 s1 BP B3 LP L3 B4 L4 BV LV;have hTw:Qv w':=fun k a b=>(hT k a b).below Pd;obtain⟨LE,BL,hE,hLE⟩:=ae3 hTw (k:=k) (f:=f) s0 s1 BP BV ae ae;refine Rv (l:=l) en hr hl hn ha.1 ha.2 hTw
   (Df en hb hl e1) (Nl B1 ae e2) (JK B2 ae e3) (Df rfl B3 ae e4) (JK B4 ae e5) (LE:=LE) (NE:=LE.length) rfl BL hb hE (D:=decide (LE=l)) rfl ?_
  by_cases hd:LE=l;{
 left
 rcases hLE with h0|⟨K,S,F,_,_,_,h⟩;{
 have uz:l=[]:=by rw[<-hd,h0]
 have h1:t1=true:=by have:=wF (fun y=>y.2.2) e1;rw[uz]at this;exact this.symm
 have h2:t2=true:=by have:=JW 10 0 0 m1 t1 h1;rw[e2]at this;exact this
 have h3:t3=true:=by have:=Dg (m:=m2) h2;rw[e3]at this;exact this
 have h4:t4=true:=by have:=Di (m:=m3) h3;rw[e4]at this;exact this
 have:=Dg (m:=m4) h4;rw[e5]at this;exact this};{exact absurd (h l hd) (la K S P F V)}};{
 right
 simpa using hd}
end Go.Proofs.YtjjnidignljppaaGreatDoor
