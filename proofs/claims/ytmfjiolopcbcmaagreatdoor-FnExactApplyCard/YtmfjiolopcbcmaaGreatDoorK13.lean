import Derived.Test.YtmfjiolopcbcmaaGreatDoorK11
namespace Go.Proofs.YtmfjiolopcbcmaaGreatDoor
set_option maxHeartbeats 3200000
set_option linter.unusedVariables false
set_option linter.unusedSimpArgs false
set_option maxRecDepth 100000
open Go.ChangeShapes Go.WideShapes Go.ChangeAt Go.RowKit
variable {B BZ:Nat} {Q R:World->Prop} {l:List Int} {p:Option Addr} {v:Value} {w w':World}
def Ab (B:Nat) (w:World) (Q:World->Prop):Prop:=∀ w':World,(∀ k,B<=k->k<w.heap.size->w'.heap[k]?=w.heap[k]?)->Q w'
theorem Ab.self (h:Ab B w Q):Q w:=h w (fun _ _ _=>rfl)
theorem Ab.step (h:Ab B w Q) (hs:w.heap.size<=w'.heap.size) (hk:∀ k,B<=k->k<w.heap.size->w'.heap[k]?=w.heap[k]?):Ab B w' Q:=
 fun u hu=>h u (fun k h1 h2=>(hu k h1 (Nat.lt_of_lt_of_le h2 hs)).trans (hk k h1 h2))
theorem Ab.below (h:Ab B w Q) (hb:Below w.heap.size w w'):Ab B w' Q:=h.step hb.size (fun k _ h2=>hb.block k h2)
theorem Ab.mono {B':Nat} (h:Ab B' w Q) (hB:B<=B'):Ab B w Q:=fun u hu=>h u (fun k h1 h2=>hu k (Nat.le_trans hB h1) h2)
theorem Ab.set (h:Ab B w Q) {a:Addr} (ha:a.block<B) (v:Value):Ab B (w.setCell a v) Q:=
 h.step (by simp) (fun k h1 _=>dr _ _ _ _ (by omega))
theorem Ab.imp (h:Ab B w Q) (hi:∀ u,Q u->R u):Ab B w R:=fun u hu=>hi u (h u hu)
theorem Ab.and (h:Ab B w Q) (k:Ab B w R):Ab B w (fun u=>Q u/\R u):=fun u hu=>⟨h u hu,k u hu⟩
theorem Own.ab {n c:Nat} (h:Own B w (.slice p n c) l):Ab B w (fun u=>Rd u (.slice p n c) l/\dh (.slice p n c)):=by
 refine fun u hu=>⟨?_,p,n,c,rfl,h.cap,h.vR⟩;obtain ⟨p',c',e,hd⟩:=h.rd;refine ⟨p',c',e,?_⟩;rcases hd with h0 | ⟨b,o,hp,hc⟩;{exact .inl h0};{refine .inr ⟨b,o,hp,fun i hi=>?_⟩;simp only [Value.slice.injEq] at e;have hb:B<=b/\b<w.heap.size:=h.lt b (by rw [e.1,hp];rfl);exact (aj (hu b hb.1 hb.2) _).trans (hc i hi)}
theorem Tryz.infoU64:(Tryz.prog.info? 22).map (fun i=>(i.zero,i.size,i.bytes))=some (some (.int .u64 0),1,8):=by kernel_rfl
theorem Tryz.infoEv:(Tryz.prog.info? 147).map (fun i=>(i.zero,i.size,i.bytes))=some (some (.agg #[.int .i64 0,.slice none 0 0]),2,32):=by kernel_rfl
theorem Tryz.infoSes:(Tryz.prog.info? 95).map (fun i=>(i.zero,i.size,i.bytes))=some (some (.agg #[.int .u64 0,.int .i64 0,.slice none 0 0]),3,40):=by kernel_rfl
theorem Tryz.infoNod:(Tryz.prog.info? 103).map (fun i=>(i.zero,i.size,i.bytes))=some (some (.agg #[.slice none 0 0,.slice none 0 0,.int .u64 0,.int .i64 0,.slice none 0 0,.int .u64 0,.int .u64 0,.slice none 0 0]),8,128):=by kernel_rfl
theorem lY (h:Below w.heap.size w w'):w.grownBy w' none:=⟨h.os,h.tape,h.output,h.size,fun i hi _=>h.block i hi⟩
open Go.Proofs.Tryz
def Nf (BZ:Nat) (w:World) (v:Value):Prop:=∀ b,v.ownBlock=some b->BZ<=b/\∀ o,w.frozen? ⟨b,o,none⟩=false
def xv (BZ:Nat) (w:World) (v:Value) (es:List Ev):Prop:=
 ∃ (p:Option Addr) (c:Nat),v=.slice p es.length c/\Nf BZ w v/\(es=[]\/∃ b o,p=some ⟨b,o,none⟩/\∀ i e,es[i]?=some e->w.cell? ⟨b,o+i*2,none⟩=some (.int .i64 e.1)/\∃ u,w.cell? ⟨b,o+i*2+1,none⟩=some u/\Rd w u e.2/\dh u/\Nf BZ w u)
def AI (BZ:Nat) (w:World) (v:Value) (ss:List aR):Prop:=
 ∃ (p:Option Addr) (c:Nat),v=.slice p ss.length c/\Nf BZ w v/\(ss=[]\/∃ b o,p=some ⟨b,o,none⟩/\∀ i s,ss[i]?=some s->w.cell? ⟨b,o+i*3,none⟩=some (.int .u64 s.1)/\w.cell? ⟨b,o+i*3+1,none⟩=some (.int .i64 s.2.1)/\∃ u,w.cell? ⟨b,o+i*3+2,none⟩=some u/\xv BZ w u s.2.2)
def DJ (BZ:Nat) (w:World) (v:Value) (ns:List aA):Prop:=
 ∃ (p:Option Addr) (c:Nat),v=.slice p ns.length c/\Nf BZ w v/\(ns=[]\/∃ b o,p=some ⟨b,o,none⟩/\∀ i nd,ns[i]?=some nd->∃ P V H U,mc w b (o+i*8) nd P V H U/\Nf BZ w P/\Nf BZ w V/\Nf BZ w H/\Nf BZ w U)
theorem xv.rd {es:List Ev} (h:xv BZ w v es):iO w v es:=by
 obtain ⟨p,c,rfl,-,h⟩:=h;refine ⟨p,c,rfl,?_⟩;rcases h with h | ⟨b,o,rfl,h⟩;{exact .inl h};{refine .inr ⟨b,o,rfl,fun i e he=>?_⟩;obtain ⟨h1,u,h2,h3,h4,_⟩:=h i e he;exact ⟨h1,u,h2,h3,h4⟩}
theorem AI.rd {es:List aR} (h:AI BZ w v es):jP w v es:=by
 obtain ⟨p,c,rfl,-,h⟩:=h;refine ⟨p,c,rfl,?_⟩;rcases h with h | ⟨b,o,rfl,h⟩;{exact .inl h};{refine .inr ⟨b,o,rfl,fun i e he=>?_⟩;obtain ⟨h1,h2,u,h3,h4⟩:=h i e he;exact ⟨h1,h2,u,h3,h4.rd⟩}
theorem DJ.rd {es:List aA} (h:DJ BZ w v es):jB w v es:=by
 obtain ⟨p,c,rfl,-,h⟩:=h;refine ⟨p,c,rfl,?_⟩;rcases h with h | ⟨b,o,rfl,h⟩;{exact .inl h};{refine .inr ⟨b,o,rfl,fun i e he=>?_⟩;obtain ⟨P,V,H,U,h1,_⟩:=h i e he;exact ⟨P,V,H,U,h1⟩}
theorem Own.aw {n c:Nat} (h:Own B w (.slice p n c) l) (hB:BZ<=B):Ab B w (fun u=>Rd u (.slice p n c) l/\dh (.slice p n c)/\Nf BZ u (.slice p n c)):=by
 refine fun u hu=>⟨(h.ab u hu).1,(h.ab u hu).2,fun b hb=>?_⟩;have hl:=h.lt b hb;refine ⟨Nat.le_trans hB hl.1,fun o=>?_⟩;rcases h.2 with ⟨e,_⟩ | ⟨g,cap,cur,e,hg,UY,_⟩;{simp only [Value.slice.injEq] at e;rw [e.1] at hb;simp [Value.ownBlock] at hb};{simp only [Value.slice.injEq] at e;rw [e.1] at hb;simp only [Value.ownBlock,Option.some.injEq] at hb;subst hb;rw [World.frozen?_of_block (w:=w) (a:=⟨g,o,none⟩) (hu g hl.1 hl.2)];simp [World.frozen?,UY]}
theorem Nf.row {u wr:World} {G n c m:Nat} {e:TypeId} {sz:Nat} {L:List Value} (ho:wr.ownsRow G e sz (.slice (some ⟨G,0,none⟩) n c) m L) (hB:BZ<=G) (hu:u.heap[G]?=wr.heap[G]?):Nf BZ u (.slice (some ⟨G,0,none⟩) n c):=fun b hb=>by
 simp only [Value.ownBlock,Option.some.injEq] at hb;subst hb;refine ⟨hB,fun o=>?_⟩;rw [World.frozen?_of_block (w:=wr) (a:=⟨G,o,none⟩) hu];rcases ho.2 with ⟨e,_⟩ | ⟨g,cap,cur,e,hg,UY,_⟩;{simp at e};{simp only [Value.slice.injEq,Option.some.injEq,Addr.mk.injEq] at e;obtain ⟨⟨rfl,-⟩,-⟩:=e;simp [World.frozen?,UY]}
theorem pG (p:Option Addr) (c n:Nat) (l:List Int) (en:Hid (l.length=n)) (w:World) (BZ:Nat) (hB:BZ<=w.heap.size) (h:Rd w (.slice p n c) l) (hl:n<=1048576) :
  Calls prog 27 #[.slice p n c] w fun e w'=>∃ p' c',e=.returned (.slice p' n c')/\Ab w.heap.size w' (fun u=>Rd u (.slice p' n c') l/\dh (.slice p' n c')/\Nf BZ u (.slice p' n c'))/\Below w.heap.size w w':=by
 refine (rZ p c n l en w h hl).mono ?_;rintro e w' ⟨p',c',rfl,ho,hb⟩;exact ⟨p',c',rfl,ho.aw hB,hb⟩
theorem qM (p:Option Addr) (c n:Nat) (l:List Int) (en:Hid (l.length=n)) (w:World) (BZ:Nat) (hB:BZ<=w.heap.size) (h:iA w (.slice p n c) l) (hn:n<=1048576) :
  Calls prog 111 #[.slice p n c] w fun e w'=>∃ p' c',e=.returned (.slice p' n c')/\Ab w.heap.size w' (fun u=>iA u (.slice p' n c') l/\Nf BZ u (.slice p' n c'))/\Below w.heap.size w w':=by
 obtain ⟨i,hi,jG,gi,gP⟩:=info_parts Tryz.infoU64;have HR:=ae fun (w':World) (hb:Below w.heap.size w w')=>h.below hb;clear h;go_enter func111,ntmps111;go_wp2_with (first | (at_make;refine wpList_make_full _ rfl _ _ 86 rfl w.heap.size 22 i (.int .u64 0) 1 underlying86 hi jG gi _ _ _ _ n rfl rfl rfl rfl ?b2 ?b3 ?b4 ?_))
 case b2=>rw [gP];omega
 case b3=>unfold maxLen;omega
 case b4=>exact Nat.le_refl _
 intro w1 aS hg;have hb:=fu hg;obtain ⟨G,eG⟩:=ax w.heap.size;rw [<-eG] at aS ⊢;have zG:G<w1.heap.size:=(World.ownsRow.lt aS G rfl).2;have ri:w.heap.size<=G:=by omega
 have Ln:G<=w.heap.size:=by omega
 clear hg eG;go_wp2
 go_loopw [4] (fun iv wr=>∃ (k:Nat) (L:List Value),k<=n/\iv=.int .i64 k/\Hid (wr.ownsRow G 22 1 (.slice (some ⟨G,0,none⟩) n n) n L/\∀ j,j<k->L[j]?=some (.int .u64 (l.getD j 0)))/\Below w.heap.size w wr/\G<wr.heap.size) (fun iv _=>n-(intOf iv).toNat)
 case atStart=>exact ⟨0,_,Nat.zero_le _,rfl,⟨aS,fun j hj=>by omega⟩,hb,zG⟩
 case round =>(
 obtain ⟨k,L,hk,rfl,fP,aE,pR⟩:=hrel;by_cases aU:k<n;{
 have aV:(k:Int)<(n:Int):=by omega
 have bH:k<l.length:=by rw [aa en];exact aU
 obtain ⟨b,o,rfl,bD⟩:∃ b o,p=some ⟨b,o,none⟩/\wr.cell? ⟨b,o+k,none⟩=some (.int .u64 (l.getD k 0)):=by obtain ⟨p',c',ev,hd⟩:=aa HR _ aE;simp only [Value.slice.injEq] at ev;obtain ⟨rfl,-,-⟩:=ev;rcases hd with h0 | ⟨b,o,h1,h2⟩;{rw [h0] at bH;simp at bH};{exact ⟨b,o,h1,h2 k bH⟩}
 obtain ⟨ho,hL⟩:=aa fP;have hlen:L.length=n*1:=ho.1;obtain ⟨u0,oF⟩:∃ u,wr.cell? ⟨G,k,none⟩=some u:=by rw [ho.cellAt k (by omega)];exact ⟨_,aH (by omega)⟩
 have xY:=ho.frozenAt k;obtain ⟨y,ey⟩:=aZ (l.getD k 0);rw [ey] at bD;have ir:Hid ((wr.setCell ⟨G,k,none⟩ (.int .u64 y)).ownsRow G 22 1 (.slice (some ⟨G,0,none⟩) n n) n (L.set k (.int .u64 y))/\∀ j,j<k+1->(L.set k (.int .u64 y))[j]?=some (.int .u64 (l.getD j 0))):=by refine ⟨(ho.stored k _).1,fun j hj=>?_⟩;by_cases e:j=k;{subst e;rw [List.getElem?_set_self (by omega),ey]};{rw [aX (by omega)];exact hL j (by omega)}
 have bb:=aE.setCell (p:=⟨G,k,none⟩) ri (.int .u64 y);clear ho hL fP bH ey hlen aS hb;go_wp2;go_roundw
 case rel=>exact ⟨k+1,_,by omega,by go_num,ir,bb,by simpa using pR⟩
 case measure=>simp [intOf];omega}
 {
 have aV:¬ (k:Int)<(n:Int):=by omega
 have ui:k=n:=by omega
 subst ui;obtain ⟨ho,hL⟩:=aa fP;have pX:Ab w.heap.size wr (fun u=>iA u (.slice (some ⟨G,0,none⟩) k k) l/\Nf BZ u (.slice (some ⟨G,0,none⟩) k k)):=by intro u hu;refine ⟨?_,Nf.row ho (by omega) (hu G (by omega) pR)⟩;refine ⟨some ⟨G,0,none⟩,k,by rw [aa en],?_⟩;refine .inr ⟨G,0,rfl,fun i hi=>?_⟩;rw [aa en] at hi;rw [Nat.zero_add,aj (hu G (by omega) pR),ho.cellAt i (by omega)];exact hL i hi
 clear ho hL fP aS hb;go_wp2;go_ret;exact ⟨_,_,rfl,pX,aE⟩})
theorem Eb (K:Int) (p:Option Addr) (c n:Nat) (P:List Int) (en:Hid (P.length=n)) (w:World) (BZ:Nat) (hB:BZ<=w.heap.size) (h:Rd w (.slice p n c) P) (hn:n<=1048576) :
  Calls prog 138 #[.agg #[.int .i64 K,.slice p n c]] w fun r w'=>∃ p1 d1,r=.returned (.agg #[.int .i64 K,.slice p1 n d1])/\Ab w.heap.size w' (fun u=>(Rd u (.slice p1 n d1) P/\dh (.slice p1 n d1)/\Nf BZ u (.slice p1 n d1)))/\Below w.heap.size w w':=by
 have R1:=ae fun (w':World) (hb:Below w.heap.size w w')=>h.below hb;clear h;go_enter func138,ntmps138;go_wp2_with fail;obtain ⟨W1,fN⟩:=ax (w.alloc (.cells #[.int .i64 K,.slice p n c] 230));obtain ⟨W2,gr⟩:=ax (W1.alloc (.cells #[.int .i64 0,.slice none 0 0] 147));obtain ⟨W,hW⟩:=ax (W2.alloc (.cells #[.int .i64 K,.slice none 0 0] 147));have z1:W1.heap.size=w.heap.size+1:=by rw [fN];simp
 have z2:W2.heap.size=w.heap.size+2:=by rw [gr];simp;omega
 have zW:W.heap.size=w.heap.size+3:=by rw [hW];simp;omega
 have b1:Below w.heap.size w W1:=by rw [fN];exact ar.alloc ay _
 have b2:Below W1.heap.size W1 W2:=by rw [gr];exact ar.alloc ay _
 have b3:Below W2.heap.size W2 W:=by rw [hW];exact ar.alloc ay _
 have bW:Below w.heap.size w W:=ai (ai b1 b2) b3;obtain ⟨A,eA⟩:=ax w.heap.size;obtain ⟨R,eR⟩:=ax (A+1);obtain ⟨C,eC⟩:=ax (R+1);have hA:ah W A [.int .i64 K,.slice p n c]:=by
  have h0:ah W1 A [.int .i64 K,.slice p n c]:=by rw [fN,eA];exact ah.alloc w #[.int .i64 K,.slice p n c] _
  exact (h0.below (by omega) b2).below (by omega) b3
 have hR:ah W R [.int .i64 0,.slice none 0 0]:=by
  have h0:ah W2 R [.int .i64 0,.slice none 0 0]:=by rw [gr,show R=W1.heap.size by omega];exact ah.alloc W1 #[.int .i64 0,.slice none 0 0] _
  exact h0.below (by omega) b3
 have hC:ah W C [.int .i64 K,.slice none 0 0]:=by rw [hW,show C=W2.heap.size by omega];exact ah.alloc W2 #[.int .i64 K,.slice none 0 0] _
 rw [<-fN,<-gr,<-hW,<-eA,<-eR,<-eC];have HE:=ae (ag eA (ag eR (ag eC zW)));have BW:=ae bW;have HA:=ae hA;have qt:=ae hR;have HC:=ae hC;clear hW fN gr eA eR eC zW bW z1 z2 b1 b2 b3 hA hR hC;refine (pG p c n P en _ BZ (Nat.le_trans hB BW.size) (aa R1 _ BW) hn).mono ?_;rintro r w1 ⟨p1,d1,rfl,ab1,aK⟩;have MX:Hid (W.heap.size<=W.heap.size/\W.heap.size<=w1.heap.size):=⟨Nat.le_refl _,aK.size⟩;have tL:=ae (HA.below (by obtain ⟨eA,eR,eC,zW⟩:=aa HE;have:=aa MX;omega) aK);have DK:=ae (qt.below (by obtain ⟨eA,eR,eC,zW⟩:=aa HE;have:=aa MX;omega) aK);have rK:=ae (HC.below (by obtain ⟨eA,eR,eC,zW⟩:=aa HE;have:=aa MX;omega) aK);have B1:=ae (ai BW aK);have Nt:=ae (Ab.mono (B:=W.heap.size) ab1 MX.1);clear ab1 aK;have MG:=tL.1 0 _ rfl;have MF:=tL.1 1 _ rfl;have FG:=rK.1 0 _ rfl;have FE:=rK.1 1 _ rfl;have fC:=rK.2;have yi:¬ C=A:=by obtain ⟨eA,eR,eC,zW⟩:=aa HE;omega
 have VT:=DK.1 0 _ rfl;have VS:=DK.1 1 _ rfl;have fR:=DK.2;have Qt:¬ R=A:=by obtain ⟨eA,eR,eC,zW⟩:=aa HE;omega
 have CQ:¬ R=C:=by obtain ⟨eA,eR,eC,zW⟩:=aa HE;omega
 have Qr:¬ C=R:=by obtain ⟨eA,eR,eC,zW⟩:=aa HE;omega
 go_wp2;obtain ⟨eA,eR,eC,zW⟩:=aa HE;have zz:=aa MX;refine bodyPost_ret (v:=.agg #[.int .i64 K,.slice p1 n d1]) (by simp [results,results138,go_sem,FG,FE,VT,VS,yi,Qt,CQ,Qr]) rfl ⟨p1,d1,rfl,Ab.mono (B:=w.heap.size) (B':=W.heap.size) ?_ (by omega),?_⟩;{
 iterate 3 (refine Ab.set ?_ (by simp;omega) _)
 exact Nt};{
 iterate 3 (refine Below.setCell ?_ (by simp;omega) _)
 exact B1}
theorem Bt (p:Option Addr) (c n:Nat) (l:List Ev) (en:Hid (l.length=n)) (w:World) (BZ:Nat) (hB:BZ<=w.heap.size) (h:nS w (.slice p n c) l) (hn:n<=1048576) (ij:Hid (∀ y∈l,y.2.length<=1048576)) :
  Calls prog 110 #[.slice p n c] w fun e w'=>∃ p' c',e=.returned (.slice p' n c')/\Ab w.heap.size w' (fun u=>xv BZ u (.slice p' n c') l)/\Below w.heap.size w w':=by
 obtain ⟨i,hi,jG,gi,gP⟩:=info_parts Tryz.infoEv;have HR:=ae fun (w':World) (hb:Below w.heap.size w w')=>h.below hb;clear h;go_enter func110,ntmps110;go_wp2_with (first | (at_make;refine wpList_make_full _ rfl _ _ 37 rfl w.heap.size 147 i _ 2 underlying37 hi jG gi _ _ _ _ n rfl rfl rfl rfl ?b2 ?b3 ?b4 ?_))
 case b2=>rw [gP];omega
 case b3=>unfold maxLen;omega
 case b4=>exact Nat.le_refl _
 intro w1 aS hg;have hb:=fu hg;obtain ⟨G,eG⟩:=ax w.heap.size;rw [<-eG] at aS ⊢;have zG:G<w1.heap.size:=(World.ownsRow.lt aS G rfl).2;have ri:w.heap.size<=G:=by omega
 have Ln:G<=w.heap.size:=by omega
 clear hg eG;go_wp2_with fail
 go_loopw [4] (fun iv wr=>∃ (k:Nat) (L:List Value),k<=n/\iv=.int .i64 k/\Hid (wr.ownsRow G 147 2 (.slice (some ⟨G,0,none⟩) n n) n L/\∀ (j:Nat) (y:Ev),j<k->l[j]?=some y->L[j*2]?=some (.int .i64 y.1)/\∃ v,L[j*2+1]?=some v/\Ab (G+1) wr (fun u=>Rd u v y.2/\dh v/\Nf BZ u v))/\Below w.heap.size w wr/\G<wr.heap.size) (fun iv _=>n-(intOf iv).toNat)
 case atStart=>exact ⟨0,_,Nat.zero_le _,rfl,⟨aS,fun j y hj=>by omega⟩,hb,zG⟩
 case round =>(
 obtain ⟨k,L,hk,rfl,fP,aE,pR⟩:=hrel;by_cases aU:k<n;{
 have aV:(k:Int)<(n:Int):=by omega
 have bH:k<l.length:=by rw [aa en];exact aU
 obtain ⟨y,hy⟩:∃ y,l[k]?=some y:=⟨_,aH bH⟩;have du:=aa ij y (aL hy);obtain ⟨K,P⟩:=y;obtain ⟨b,o,rfl,Qd,u,Lb,vk⟩:∃ b o,p=some ⟨b,o,none⟩/\wr.cell? ⟨b,o+k*2,none⟩=some (.int .i64 K)/\∃ u,wr.cell? ⟨b,o+k*2+1,none⟩=some u/\Rd wr u P:=by obtain ⟨p',c',ev,hd⟩:=aa HR _ aE;simp only [Value.slice.injEq] at ev;obtain ⟨rfl,-,-⟩:=ev;rcases hd with h0 | ⟨b,o,h1,h2⟩;{rw [h0] at bH;simp at bH};{exact ⟨b,o,h1,h2 k _ hy⟩}
 obtain ⟨pp,pc,m,rfl,em⟩:=vk.ed;have hm:m<=1048576:=by rw [<-aa em];exact du
 have Rm:=ae vk;clear vk;clear bH du;go_wp2_with fail;refine (Eb K pp pc m P em _ BZ (Nat.le_trans hB aE.size) Rm hm).mono ?_;rintro r w2 ⟨p1,d1,rfl,wF,aG⟩;have b2:=ai aE aG;obtain ⟨ho,hL⟩:=aa fP;have iC:=ho.kept (lY aG) (by right;simp [Value.ownBlock]);have hlen:L.length=n*2:=ho.1;obtain ⟨u0,oF⟩:∃ u,w2.cell? ⟨G,k*2,none⟩=some u:=by rw [iC.cellAt (k*2) (by omega)];exact ⟨_,aH (by omega)⟩
 have xY:=iC.frozenAt (k*2);obtain ⟨u1,jg⟩:∃ u,w2.cell? ⟨G,k*2+1,none⟩=some u:=by rw [iC.cellAt (k*2+1) (by omega)];exact ⟨_,aH (by omega)⟩
 have vt:=iC.frozenAt (k*2+1);have Yf:G<w2.heap.size:=Nat.lt_of_lt_of_le pR aG.size;obtain ⟨w3,ve⟩:=ax ((w2.setCell ⟨G,k*2,none⟩ (.int .i64 K)).setCell ⟨G,k*2+1,none⟩ (.slice p1 m d1));have ir:Hid (w3.ownsRow G 147 2 (.slice (some ⟨G,0,none⟩) n n) n (((L).set (k*2) (.int .i64 K)).set (k*2+1) (.slice p1 m d1))/\∀ (j:Nat) (y:Ev),j<k+1->l[j]?=some y->(((L).set (k*2) (.int .i64 K)).set (k*2+1) (.slice p1 m d1))[j*2]?=some (.int .i64 y.1)/\∃ v,(((L).set (k*2) (.int .i64 K)).set (k*2+1) (.slice p1 m d1))[j*2+1]?=some v/\Ab (G+1) w3 (fun u=>Rd u v y.2/\dh v/\Nf BZ u v)):=by refine ⟨by rw [ve];exact (World.ownsRow.stored ((World.ownsRow.stored (iC) (k*2) _).1) (k*2+1) _).1,fun j z hj hz=>?_⟩;by_cases ej:j=k;{rw [ej] at hz ⊢;rw [hy] at hz;cases hz;refine ⟨by rw [aX (by omega)];exact List.getElem?_set_self (by first | omega | (simp only [List.length_set];omega)),_,by  exact List.getElem?_set_self (by first | omega | (simp only [List.length_set];omega)),?_⟩;exact (by rw [ve];exact Ab.set (Ab.set (Ab.mono wF (by omega)) (a:=⟨G,k*2,none⟩) (by show G<_;omega) _) (a:=⟨G,k*2+1,none⟩) (by show G<_;omega) _)};{obtain ⟨q1,v,q2,q3⟩:=hL j z (by omega) hz;refine ⟨(by rw [aX (by omega)];rw [aX (by omega)];exact q1),v,(by rw [aX (by omega)];rw [aX (by omega)];exact q2),?_⟩;exact (by rw [ve];exact Ab.set (Ab.set (q3.below aG) (a:=⟨G,k*2,none⟩) (by show G<_;omega) _) (a:=⟨G,k*2+1,none⟩) (by show G<_;omega) _)}
 have bb:Below w.heap.size w w3:=by rw [ve];exact Below.setCell (Below.setCell (b2) (p:=⟨G,k*2,none⟩) ri _) (p:=⟨G,k*2+1,none⟩) ri _
 have Xx:G<w3.heap.size:=by rw [ve];simpa using Yf
 clear ho hL fP iC wF hlen aS hb b2 aG aE;go_wp2_with fail;rw [<-ve];clear ve oF jg xY vt Qd Lb;go_wp2;go_roundw
 case rel=>exact ⟨k+1,_,by omega,by go_num,ir,bb,Xx⟩
 case measure=>simp [intOf];omega}
 {
 have aV:¬ (k:Int)<(n:Int):=by omega
 have ui:k=n:=by omega
 subst ui;obtain ⟨ho,hL⟩:=aa fP;have pX:Ab w.heap.size wr (fun u=>xv BZ u (.slice (some ⟨G,0,none⟩) k k) l):=by
  intro u hu;refine ⟨some ⟨G,0,none⟩,k,by rw [aa en],Nf.row ho (by omega) (hu G (by omega) pR),?_⟩;refine .inr ⟨G,0,rfl,fun i y hy=>?_⟩;have ua:i<k:=by rw [<-aa en];exact (aM.1 hy).1
  have jA:∀ j,j<k*2->u.cell? ⟨G,0+j,none⟩=L[j]?:=fun j hj=>by rw [Nat.zero_add,aj (hu G (by omega) pR),ho.cellAt j hj]
  have zJ:∀ q,G+1<=q->q<wr.heap.size->u.heap[q]?=wr.heap[q]?:=fun q h1 h2=>hu q (by omega) h2;obtain ⟨q1,v,q2,q3⟩:=hL i y ua hy;refine ⟨by rw [jA _ (by omega)];exact q1,v,by rw [Nat.add_assoc,jA _ (by omega)];exact q2,(q3 u zJ).1,(q3 u zJ).2.1,(q3 u zJ).2.2⟩
 clear ho hL fP aS hb;go_wp2;go_ret;exact ⟨_,_,rfl,pX,aE⟩})
end Go.Proofs.YtmfjiolopcbcmaaGreatDoor
