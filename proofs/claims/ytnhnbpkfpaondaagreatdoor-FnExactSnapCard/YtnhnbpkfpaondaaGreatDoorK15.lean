import Derived.Test.YtnhnbpkfpaondaaGreatDoorK14
namespace Go.Proofs.YtnhnbpkfpaondaaGreatDoor
set_option maxHeartbeats 0
set_option linter.all false
set_option maxRecDepth 100000
open Go.ChangeShapes Go.WideShapes Go.ChangeAt Go.RowKit Go.Maps Go.Proofs.Tryz
variable {ss:List aQ}{ns:List aD}{t y i a':Int}{p p2:OA}{c n d g C k B sz M N b e x L s L' b2 R:Nat}{vs cs:List Value}{ls xs:List LI}{lm l D l0 l1 l2 l3 l4 r m m' m3:LI}{Ls:List (List Lf)}{ty t1 t2:TypeId}{V3 u X w0:World}{v v0 v1 v2 v3 v4 v5 v6 v7:Value}{lb A:List Lf}{q:Prop}{nd:aD}{om o o' EO:Option LI}{rest:List Oper}{ops:Array Oper}{a:Act}{c2 c1:Array Value}{sh sh' s3:Bool}{row:Option Nat}
def yB.dur(h:yB ss ns):yB (ss.map kh) (ns.map lx):=by
 refine⟨?_,?_,λs hs=>?_,λnd bu=>?_,λi j s s' hi hj ld=>?_,λi j s s' hi hj ld=>?_⟩;{rw[Ef];exact h.s1};{rw[sR];exact h.n1};{obtain⟨s0,U0,rfl⟩:=iR.1 hs;exact⟨(h.s2 s0 U0).1,by simp[kh],λe he=>by simp[kh]at he⟩};{obtain⟨n0,MX,rfl⟩:=iR.1 bu;obtain⟨a,b,c,d,-,f,-⟩:=h.n2 n0 MX;exact⟨a,b,c,d,by simp[lx],f,by simp[lx]⟩};{rw[nG]at hi hj;obtain⟨a,ha,rfl⟩:=Dg.1 hi;obtain⟨a',Tr,rfl⟩:=Dg.1 hj;exact h.s3 i j a a' ha Tr ld};{rw[nG]at hi hj;obtain⟨a,ha,rfl⟩:=Dg.1 hi;obtain⟨a',Tr,rfl⟩:=Dg.1 hj;exact h.n3 i j a a' ha Tr ld}
def Sb{e g x:Int}{q:OA}{m:Nat}(en:Le ss n)(em:Le ns m){w:World}(h:kr w (.S p n c) ss)(hN:lM w (.S q m d) ns)(hn:Mg n)(hm:Mg m)(HF:Hid (yB ss ns))(gh:Hid (∀nd∈ns,aN nd.path/\nd.path.length<=1048576/\nd.value.length<=1048576/\nd.holders.length<=1048576/\nd.watchers.length<=1048576))(IG:Hid (∀nd∈ns,(∀i∈nd.holders,0<=i/\i<2^64)/\∀i∈nd.watchers,0<=i/\i<2^64)):Calls prog 97 #[dZ e g x t (.S p n c) (.S q m d)] w λr w'=>∃p' c' q' d',r=.returned (dZ e g x 0 (.S p' n c') (.S q' m d'))/\gJ w.heap.size w' p' n c' q' m d' (ss.map kh) (ns.map lx)/\Bw w w':=by
 let⟨W,hW,b1,z1,C1⟩:=jB w (.U e) (.U g) (.U x) (.I t) (.S p n c) (.S q m d)
 let⟨W2,mu,b2,z2,C2⟩:=sr W
 rw[z1]at C2 z2;have bW:=aj b1 b2;have HR:=ag (ai (h.below bW) (ai (hN.below bW) (ai C2 (ai bW z2))));clear h hN C1 C2 bW b1 b2 z1 z2
 go_in
 go_wp2_with fail;rw[<-hW,<-mu];clear hW mu;refine(qK en em HR.1 HR.2.1 hn hm (ag λs hs=>(HF.s2 s hs).1) (ag HF.s3) gh IG (ag HF.n3)).mono ?_;rintro r w4⟨b,bs,bn,SB,NB,HB,UB,rfl,db,fy⟩;have P4:=ag (PS.of db fy (ae HF) (ae en▸hn) (ae em▸hm));have C4:=ag (HR.2.2.1.below fy);clear db fy;go_wp2_with fail;refine(Xv P4 (ag (KD.of HF)) (ag HF.s3)).mono ?_;rintro r w5⟨P5,F5,v5,rfl⟩;have C5:=ag (C4.fr F5);have xG:=ag P5.be;have HF5:=HF.dur;have HS:=ag (Bt P5.sto HF5.s1 HF5.n1 (by rw[fN,ae en];exact hn) (by rw[fN,ae em];exact hm) HF5.s2 HF5.n2);rw[show(ss.map kh).length=n by rw[fN,ae en],show(ns.map lx).length=m by rw[fN,ae em]]at HS;clear P5 F5 P4 C4 HF5;go_wp2_with fail;refine HS.mono ?_;rintro r w6⟨ps,cs,pn,cn,A1,A2,rfl,f1,f2,f3,f4,f5,ko⟩
 let⟨r0,r1,r2,r3,r4,r5,rf⟩:=(C5.below ko).cells
 have zz:=fu HR.2.2.2.1.size xG.size;have bb:Bw w w6:=(HR.2.2.2.1.trans (xG.mono HR.2.2.2.1.size)).trans (ko.mono zz);have O6:=ag (ai (((show gJ w5.heap.size w6 ps n cs pn m cn _ _ from⟨A1,A2,f1,f2,f3,f4,f5⟩).keep (w':=dG w6 (w.heap.size+1) (.U e) (.U g) (.U x) (.I 0) (.S ps n cs) (.S pn m cn)) (λy h1 h2=>jX (by have:=xG.size;have:=HR.2.2.2.2;omega))).mono (B':=w.heap.size) zz) (bb.trans ((dr (w:=w6) (w.heap.size+1) (.U e) (.U g) (.U x) (.I 0) (.S ps n cs) (.S pn m cn)).mono af)));clear f1 f2 f3 f4 f5 ko bb zz HS;go_wp2;exact dJ (v:=dZ e g x 0 (.S ps n cs) (.S pn m cn)) (by simp[results,results97,go_sem,r0,r1,r2,r3,r4,r5]) rfl ⟨ps,cs,pn,cn,rfl,O6.1,O6.2⟩
theorem Sf{w:World}(h:lh w g vs ls)(hl:(cat ls).length<=4194304)(hk:ls.length<=1000):Calls prog 166 #[.T g ls.length C] w λe w'=>∃p' c',e=.returned (.S p' (cat ls).length c')/\Own w.heap.size w' (.S p' (cat ls).length c') (cat ls)/\Bw w w':=by
 let⟨i,hi,qx,jd,jJ⟩:=fD Tryz.infoByte
 go_in
 go_wp2
 go_loopw[3,11](λs i wr=>∃k:Nat,k<=ls.length/\i=.I k/\s=.I ((cat (ls.take k)).length:Nat)/\Bw w wr) (λ_ i _=>ls.length-(intOf i).toNat)
 exact⟨0,gr _,rfl,by simp[cat],cQ _ _⟩;{
 obtain⟨k,mT,rfl,rfl,aM⟩:=hrel;have M8:=qS ls k;by_cases bf:k<ls.length;{
 let⟨p,c,l,e1,e2,e3⟩:=(h.below aM).get k bf
 have db:=vK e1;have hln:(cat (ls.take k)).length+l.length=(cat (ls.take (k+1))).length:=by rw[db];simp
 have ar7:=qS ls (k+1);have hle:(cat (ls.take k)).length+l.length<=4194304:=af;have HL:=ag hln;clear hln db ar7 e3 e1;generalize(cat (ls.take k)).length=a at*;go_wp2;go_roundw;exact⟨k+1,af,by go_num,by rw[<-ae HL];go_num,aM⟩;exact cg};{
 have e:k=ls.length:=af;subst e;rw[rr];rw[rr]at M8;go_wp2_with fail;refine(DH hl).mono ?_;rintro e w1⟨p1,c1,rfl,o1,aG⟩;replace o1:Own w.heap.size w1 (.S p1 0 c1) []:=o1.mono aM.size;have b1:=aj aM aG;clear aG aM M8;go_wp2
 go_loopw[6,27](λv i wr=>∃k:Nat,k<=ls.length/\i=.I k/\(∃p c,v=.S p (cat (ls.take k)).length c/\Own w.heap.size wr v (cat (ls.take k)))/\Bw w wr) (λ_ i _=>ls.length-(intOf i).toNat)
 exact⟨0,gr _,rfl,⟨p1,c1,by simp[cat],by simpa[cat]using o1⟩,b1⟩;{
 obtain⟨k,mT,rfl,⟨pv,cv,rfl,ho⟩,aM⟩:=hrel;have M8:=qS ls k;by_cases bf:k<ls.length;{
 let⟨p,c,l,e1,e2,e3⟩:=(h.below aM).get k bf
 have db:=vK e1;have ar7:=qS ls (k+1);have hle:(cat (ls.take k)).length+l.length<=4194304:=by have:=tX List.length db;simp only[gU]at this;omega
 have HS:=ag db;clear db ar7 e1 o1 b1;generalize(cat (ls.take k))=a at*;cases p with
 |none=>
  have e:=e3.rY;subst e;have HA:=ag (fM (P:=prog) 22 i underlying22 hi c ho);go_wp2_with(at_builtin;refine Lib.wpList_append_run _ rfl _ _ _ _ rfl _ _ rfl rfl _ _ (by exact HA) ?_);go_roundw;exact⟨k+1,af,by go_num,⟨pv,cv,by rw[ae HS];simp,by rw[ae HS];simpa using ho⟩,aM⟩;exact cg
 |some ad=>
  let⟨n1,n2,n3⟩:=e3.news
  clear e3;go_wp2_with(at_builtin;refine Kk _ rfl _ _ 22 rfl w.heap.size 5 i (.int .u8 0) 1 1 underlying22 hi qx jd jJ rfl bj _ _ _ rfl ho ad _ c (U l) rfl n1 n2 n3 iB af aM.size ?_);intro v' w2 bR hg _;have b2:Bw w w2:=aM.grown hg aM.size (λk hk=>(ho.lt k hk).1);have qy:Own w.heap.size w2 v' (a++l):=by unfold Own;rw[gU,U,l8];exact bR
  obtain⟨p',c',rfl⟩:=qy.form;clear bR hg n2;go_wp2;go_roundw;exact⟨k+1,af,by go_num,⟨p',c',by rw[ae HS],by rw[ae HS];exact qy⟩,b2⟩;exact cg};{have e:k=ls.length:=af;subst e;rw[rr]at ho;clear o1 b1 M8;go_wp2;go_ret;exact⟨pv,cv,by rw[rr];rfl,ho,aM⟩}}}}
def Rc(ek:Hid (k=ls.length))(e:Hid (lm=cat ls))(en:Le lm n){w:World}(h:lh w g vs ls)(hl:n<=4194304)(hk:k<=1000):Calls prog 98 #[.T g k C] w λe w'=>∃p' c',e=.returned (.S p' n c')/\Own w.heap.size w' (.S p' n c') lm/\Bw w w':=by
 have e1:=ae ek;have e2:=ae e;have e3:=ae en;subst e1 e3 e2
 go_in
 go_wp2_with fail;refine(Sf h hl af).mono ?_;rintro e w1⟨p1,c1,rfl,o1,aG⟩;go_wp2;go_ret;exact⟨p1,c1,rfl,o1,aG⟩
def JE(w:World)(x:LI)(c:List Value)(l:List Lf):Prop:=∃p cc,c=[.S p x.length cc]/\Rd w (.S p x.length cc) x/\SQ (.S p x.length cc) x l
def JE.keep(w w':World)(x:LI)(c:List Value)(l:List Lf)(h:JE w x c l)(hk:∀a∈l,w'.heap[a.b]?=w.heap[a.b]?):JE w' x c l:=by
 obtain⟨p,cc,h1,h2,h3⟩:=h;exact⟨p,cc,h1,h2.dw h3 hk,h3⟩
abbrev yA(B:Nat)(w:World)(v:Value)(xs:List LI)(Ls:List (List Lf)):Prop:=OwnT JE 22 1 B w v xs Ls
def yA.one{w:World}(h:Own B w (.S p l.length c) l)(hB:B<=w.heap.size):∃Ls,yA B (w.alloc (.cells #[.S p l.length c] 22)) (.T w.heap.size 1 1) [l] Ls:=by
 have hb:Bw w (w.alloc (.cells #[.S p l.length c] 22)):=aA.alloc ay _;have h':=Own.below h hb;obtain⟨A,q1,q2,-,q4⟩:=Gc (kd:=.u8) h';refine⟨[A],[[.S p l.length c]],rfl,rfl,λc hc=>by simp at hc;subst hc;rfl,?_,λi x cc ll hx hc hl=>?_,by simpa using q2,λa ha=>?_⟩;{have:=aj0 (base:=B) (e:=22) (size:=1) w #[.S p l.length c] 1 hB bj rfl;simpa using this};{
 have:i=0:=by have:=(aV.1 hx).1;simpa using this
 subst this;simp at hx hc hl;subst hx hc hl;exact⟨p,c,rfl,h'.rd,q1⟩};{
 have Tr:a∈A:=by simpa using ha
 have e:=q4 a Tr;have:=(h.lt a.b e).2;intro e2;simp only[Value.ownBlock,kV]at e2;omega}
def yA.parts{w:World}(h:yA B w (.S p n c) xs Ls)(hn:xs.length=n)(h0:0<n):∃g vs,p=some (Ad g 0)/\lh w g vs xs:=by
 obtain⟨g,rfl,-⟩:=h.ptr hn h0;obtain⟨cs,h1,h2,h3,h4,h5,h6,h7⟩:=h;rw[hn]at h4;refine⟨g,cs.flatten,rfl,?_,λj v x hv hx=>?_⟩;{have:=h4.1;omega};{have hj:=(aV.1 hx).1;obtain⟨cc,hc⟩:∃x,cs[j]?=some x:=⟨_,aY af⟩;obtain⟨l,hl⟩:∃x,Ls[j]?=some x:=⟨_,aY af⟩;obtain⟨p',c',rfl,r1,-⟩:=h5 j x cc l hx hc hl;have e:=Au h3 hc (j:=0) bj;rw[zL,uP,hv]at e;simp at e;subst e;have e2:=h4.cellAt j af;rw[hv]at e2;exact⟨e2,r1⟩}
def OwnT.app{α:Type}{el:World->α->List Value->List Lf->Prop}{V:World}{xs:List α}{x:α}{c:List Value}{l:List Lf}(h:OwnT el ty sz B V v xs Ls)(db:∀w w' x c l,el w x c l->(∀a∈l,w'.heap[a.b]?=w.heap[a.b]?)->el w' x c l)(hb:Bw V V3)(hx:el V3 x c l)(hc:c.length=sz)(hA:jE V.heap.size V3 l)(hB:B<=V.heap.size):∃row,V3.ownsRow B ty sz v xs.length row/\∀v' w9,w9.ownsRow B ty sz v' (xs.length+1) (row++c)->V3.grownBy w9 v.ownBlock->(∀g,v'.ownBlock=some g->v.ownBlock=some g\/V3.heap.size<=g)→
   OwnT el ty sz B w9 v' (xs++[x]) (Ls++[l])/\∃p c',v'=.S p (xs.length+1) c':=by
 have hl:=h.lt
 let⟨cs,g1,g2,g3,g4,g5,g6,g7⟩:=h.below db hb
 refine⟨cs.flatten,g4,λv' w9 fo hg qz=>?_⟩;have sn:=OwnT.snoc g1 g2 g3 g5 g6 g7 db hx hc hA hB (λa ha=>(hl.2 a ha).2) (λb hb=>(hl.1 b hb).2) fo hg qz;refine⟨sn,?_⟩;obtain⟨p,c',e,-⟩:=sn.read;rw[gU]at e;exact⟨p,c',e⟩
def mi{w:World}{t:TypeId}:∀j u,cs[j]?=some u->(w.alloc (.cells cs.toArray t)).cell? (Ad w.heap.size j)=some u:=λj u hu=>(ar.alloc w cs.toArray t).1 j u (by simpa using hu)
def JE.of{w:World}{d:LI}(e:d.length=M)(r:Rd w (.S p M c) d)(q:SQ (.S p M c) d lb):JE w d [.S p M c] lb:=by
 subst e;exact⟨p,c,rfl,r,q⟩
def MJ{α:Type}{F:α->LI}{l:List α}{y:α}(hy:l[k]?=some y)(hD:F y=D):(vi n::(l.take k).map F)++[D]=vi n::(l.take (k+1)).map F:=by
 rw[od,hy,l8,<-hD]
 rfl
def bf6{α:Type}{F:α->LI}{l:List α}(h:k<=l.length):(vi n::(l.take k).map F).length=k+1:=by
 rw[iS,fN,pT];omega
def liB{α:Type}(f:α->LI)(l:List α):LI:=cat (vi l.length::l.map f)
def qB(i:Int):LI:=vi i.toNat
def LiI{α:Type}(F:α->LI)(n:Nat)(l:List α)(w:World)(pv iv:Value)(wr:World):Prop:=∃(k:Nat)(p2:OA)(c2:Nat)(Ls:List (List Lf)),k<=n/\pv=.S p2 (k+1) c2/\iv=.I k/\Hid (yA w.heap.size wr (.S p2 (k+1) c2) (vi n::(l.take k).map F) Ls)/\Bw w wr
def bf7{α:Type}{F:α->LI}{l:List α}{c2:Nat}{w:World}(en:l.length=n)(h:yA B w (.S p2 (n+1) c2) (vi n::(l.take n).map F) Ls):∃G vs,p2=some (Ad G 0)/\Hid (lh w G vs (vi n::l.map F))/\Hid (n+1=(vi n::l.map F).length)/\Hid (liB F l=cat (vi n::l.map F)):=by
  subst en;rw[rr]at h
  let⟨G,vs,e,hP⟩:=h.parts al af
  exact⟨G,vs,e,hP,(by show _=_;simp),bD⟩
theorem liW(h':q:=by
    let⟨ib,hib,qx,jd,jJ⟩:=fD Tryz.infoSl
    have HR:=ag λ(w':World)(hb:Bw w w')=>h.below hb;clear h;have wn:IntKind.u64.wrap (n:Int)=(n:Int):=by rw[mK];omega
    show Calls _ _ _ _ _
    go_in
    go_wp2_with fail;refine(lQ af).mono ?_;rintro r w1⟨p1,c1,rfl,o1,b1⟩
    let⟨Ls0,hP⟩:=yA.one o1 b1.size
    let⟨v0,mY⟩:=aB (w1.alloc (.cells #[.S p1 (vi n).length c1] 22))
    have hb0:Bw w v0:=mY▸b1.alloc b1.size _;rw[<-mY]at hP;have HP:=ag hP;clear hP o1;generalize(vi n).length=M at*;go_wp2;rw[<-mY];clear mY b1
    first
      |(go_loopw[5,15](LiI qB n l w) (λ_ iv _=>n-(intOf iv).toNat))
      |(go_loopw[5,15](LiI AU n l w) (λ_ iv _=>n-(intOf iv).toNat))
      |(go_loopw[5,15](LiI rZ n l w) (λ_ iv _=>n-(intOf iv).toNat))
    {exact⟨0,_,_,_,gr _,rfl,rfl,HP,hb0⟩};{
 obtain⟨k,p2,c2,Ls,hk,rfl,rfl,ho,aM⟩:=hrel;by_cases bf:k<n;{
 have bL:=aU k n;have dT:k<l.length:=ae en▸bf
 let⟨y,hy⟩:=lE dT
 have wk:IntKind.i64.wrap ((k:Int)+1)=((k+1:Nat):Int):=by rw[kU _ af];omega
 first
   | (have T0:LI:=l
      have hi:=ae hu y (aT hy);obtain⟨v,rfl⟩:∃v:Nat,y=(v:Int):=⟨y.toNat,af⟩;obtain⟨b,o,rfl,hc⟩:∃b o,p=some (Ad b o)/\wr.cell? (Ad b (o+k))=some (.U v):=by
        let⟨p',c',ev,hd⟩:=ae HR _ aM
        obtain⟨rfl,-,-⟩:=ir ev;rcases hd with h0|⟨b,o,h1,h2⟩;{rw[h0]at dT;simp at dT};{refine⟨b,o,h1,?_⟩;have:=h2 k dT;rw[gj,hy,sa]at this;exact this}
      have EL:=ag (MJ (n:=n) (F:=qB) hy (D:=vi v) rfl);clear dT hy;go_wp2_with fail;have qy:=ho;have as3:=aM;refine(lQ af).mono ?_;rintro r w3⟨p3,c3,rfl,o3,br⟩;obtain⟨M3,eM3⟩:∃M,Hid ((vi v).length=M):=⟨_,rfl⟩;rw[ae eM3]at o3⊢;clear hc ho aM)
   | (have T0:List aQ:=l
      obtain⟨i,dl,qu⟩:=y;have hi:=ae hu _ (aT hy);dsimp only at hi;obtain⟨v,rfl⟩:∃v:Nat,i=(v:Int):=⟨i.toNat,af⟩;obtain⟨b,o,rfl,tv,jt,pq,nq,cq,ku⟩:∃b o,p=some (Ad b o)/\wr.cell? (Ad b (o+k*3))=some (.U v)/\wr.cell? (Ad b (o+k*3+1))=some (.I dl)/\∃pq nq cq,wr.cell? (Ad b (o+k*3+2))=some (.S pq nq cq):=by
        let⟨p',c',ev,hd⟩:=ae HR _ aM
        obtain⟨rfl,-,-⟩:=ir ev;rcases hd with h0|⟨b,o,h1,h2⟩;{rw[h0]at dT;simp at dT};{
 let⟨d1,d2,u,d3,d4⟩:=h2 k _ hy
 obtain ⟨pq,cq,rfl,-⟩:=d4;exact⟨b,o,h1,d1,d2,pq,_,cq,d3⟩}
      have EL:=ag (MJ (n:=n) (F:=AU) hy (D:=vi v) rfl);clear dT hy;go_wp2_with fail
      let⟨X,hX⟩:=aB (wr.alloc (.cells #[.U v,.I dl,.S pq nq cq] 132))
      have II:=dX hX;have qy:=ag (ho.below JE.keep II);have as3:=aj aM II;rw[<-hX];clear hX ho aM II;refine(CS v dl pq nq cq X af).mono ?_;rintro r w3⟨p3,c3,rfl,o3,br⟩;obtain⟨M3,eM3⟩:∃M,Hid ((vi v).length=M):=⟨_,rfl⟩;rw[ae eM3]at o3⊢;clear tv jt ku)
   | (have hi:=hu.d y (aT hy)
      have hlen:=(My hu.w y (aT hy)).1;obtain⟨b,o,rfl,PP,PV,PH,PU,ZP⟩:∃b o,p=some (Ad b o)/\∃P V H U,rG wr b (o+k*8) y P V H U:=by
        let⟨p',c',ev,hd⟩:=ae HR _ aM
        obtain⟨rfl,-,-⟩:=ir ev;rcases hd with h0|⟨b,o,h1,h2⟩;{rw[h0]at dT;simp at dT};{exact⟨b,o,h1,h2 k _ hy⟩}
      obtain⟨pA,cA,nA,rfl,eA⟩:=ZP.r0.gF;obtain⟨pB,cB,nB,rfl,eB⟩:=ZP.r1.gF;obtain⟨pD,cD,nD,rfl,eD⟩:=ZP.r4.gF;obtain⟨pU,cU,nU,rfl,-⟩:=ZP.r7.gF;obtain⟨tv,jt,ku,Jw,Ou,DC,yF,hc7,q0,q1,q4,-,-⟩:=ZP;have QQ:=ag (ai q0 (ai q1 q4));obtain⟨⟨j1,j2,j3⟩,j4,j5,j6,j7,j8⟩:=hi;rw[ae eA]at j1;rw[ae eB]at j2;rw[ae eD]at j3;have J8:=ag j8;obtain⟨ow,eow⟩:∃v:Nat,y.owner=(v:Int):=⟨y.owner.toNat,af⟩;obtain⟨ep,eep⟩:∃v:Nat,y.aE=(v:Int):=⟨y.aE.toNat,af⟩;obtain⟨ge,ege⟩:∃v:Nat,y.gen=(v:Int):=⟨y.gen.toNat,af⟩;obtain⟨mo,emo⟩:∃v:Int,y.mode=v:=⟨_,rfl⟩;rw[eow]at ku j5;rw[eep]at DC j6;rw[ege]at yF j7;rw[emo]at Jw j4;obtain⟨M3,eM3⟩:∃M,Hid ((rZ y).length=M):=⟨_,bD⟩;have eNB:Hid (rZ y=ZK y.path y.value ow mo y.holders ep ge):=by show _=_;rw[rZ,eow,eep,ege,emo];rfl
      have cM7:Hid ((ZK y.path y.value ow mo y.holders ep ge).length=M3):=by show _=_;rw[<-ae eNB];exact ae eM3
      rw[ae eM3]at hlen;clear q0 q1 q4 j8 eow eep ege emo;have EL:=ag (MJ (n:=n) (F:=rZ) hy (D:=rZ y) rfl);clear dT hy;go_wp2_with fail
      let⟨X,hX⟩:=aB (wr.alloc (.cells #[.S pA nA cA,.S pB nB cB,.U ow,.I mo,.S pD nD cD,.U ep,.U ge,.S pU nU cU] 133))
      have II:=dX hX;have qy:=ag (ho.below JE.keep II);have as3:=aj aM II;rw[<-hX];refine(CN pA pB pD nA cA nB cB nD cD (.S pU nU cU) y.path y.value y.holders ow ep ge mo eA eB eD X (QQ.1.below II) (QQ.2.1.below II) (QQ.2.2.below II) af af af J8 af af af j4 M3 cM7 af).mono ?_;clear hX ho aM II;rintro r w3⟨p3,c3,rfl,o3,br⟩;rw[<-ae eNB]at o3;clear tv jt ku Jw Ou DC yF hc7)
 let⟨v3,jO⟩:=aB (w3.alloc (.cells #[.S p3 M3 c3] 22))
 have hA:=dX jO;have hcZ:∀j u,([.S p3 M3 c3]:List Value)[j]?=some u->v3.cell? (Ad w3.heap.size j)=some u:=jO▸mi;have z4:v3.heap.size=w3.heap.size+1:=by rw[jO];simp
 have o4:=Own.below o3 hA;obtain⟨lb,q1,q2,-,-⟩:=Gc (kd:=.u8) o4;have z3:=br.size;have zr:=as3.size;have hlV:=ag λb eb=>(qy.lt.1 b eb).1
 let⟨row,la,tA⟩:=qy.app JE.keep (aj br hA) (JE.of eM3 o4.rd q1) rfl q2 zr
 rw[bf6 (by rw[ae en];omega)]at la tA;have JM:=ag tA;have AK:=ag la;have b3:=ag (aj as3 (aj br hA));have HCZ:=ag hcZ;clear tA la o3 o4 q1 q2 qy br hA as3 hcZ;go_wp2_with(at_builtin;rw[<-jO];refine cR rfl 124 rfl ib 1 underlying124 hib qx jd jJ rfl bj (.S p2 (k+1) c2) rfl (ae AK) w3.heap.size 1 1 [.S p3 M3 c3] rfl rfl (ae HCZ) (λu hu=>by simp at hu;subst hu;rfl) iB af af ?_);intro v' w9 fo hg yk;have qz:∀g,v'.ownBlock=some g->(Value.slice p2 (k+1) c2).ownBlock=some g\/v3.heap.size<=g:=λg eg=>by have:=yk g eg;rw[jO];simpa using this
 rw[<-jO]at hg;obtain⟨sn,p9,c9,rfl⟩:=ae JM v' w9 fo hg qz;rw[ae EL]at sn;have DE:Bw w w9:=b3.grown hg b3.size (λb hb=>ae hlV b hb);have SN:=ag sn;clear sn EL fo hg qz yk jO JM AK b3;go_wp2;go_roundw;{exact⟨k+1,_,_,_,af,rfl,by go_num,SN,DE⟩};{simp[intOf];omega}};{have bL:=dB k n;have Cu:n=k:=af;subst Cu;obtain⟨G,vs,rfl,hPa,LX,EE⟩:=bf7 en ho;clear ho hk bf;go_wp2_with fail;refine(Rc LX EE eN hPa hN af).mono ?_;rintro r w5⟨p5,c5,rfl,o5,fT⟩;have b5:=aj aM fT;have O5:=ag (Own.mono (B':=w.heap.size) o5 aM.size);clear o5 fT;go_wp2;go_ret;exact⟨p5,c5,rfl,O5,b5⟩}}):q:=h'
def Yw(en:Le l n){w:World}(h:oK w (.S p n c) l)(hn:n<=900)(hu:Hid (∀i∈l,0<=i/\i<2^64))(eN:Hid ((liB qB l).length=N))(hN:N<=4194304):Cp 168 #[.S p n c,.func (.func 99) #[] #[]] w λe w'=>∃p' c',e=.returned (.S p' N c')/\Own w.heap.size w' (.S p' N c') (liB qB l)/\Bw w w':=liW
abbrev Of(w:World)(b:Nat)(v0 v1 v2 v3 v4 v5 v6 v7:Value):Prop:=w.cell? (Ad b 0)=some v0/\w.cell? (Ad b 1)=some v1/\w.cell? (Ad b 2)=some v2/\w.cell? (Ad b 3)=some v3/\w.cell? (Ad b 4)=some v4/\w.cell? (Ad b 5)=some v5/\w.cell? (Ad b 6)=some v6/\w.cell? (Ad b 7)=some v7
def Of.below{w w':World}(h:Of w b v0 v1 v2 v3 v4 v5 v6 v7)(hb:Bw w w'):Of w' b v0 v1 v2 v3 v4 v5 v6 v7:=
 ⟨ah h.1 hb,ah h.2.1 hb,ah h.2.2.1 hb,ah h.2.2.2.1 hb,ah h.2.2.2.2.1 hb,ah h.2.2.2.2.2.1 hb,ah h.2.2.2.2.2.2.1 hb,ah h.2.2.2.2.2.2.2 hb⟩
def bD2(h:u.cell? (Ad b 0)=some (.int .u8 y)):Rd u (.T b 1 1) [y]:=by
 refine⟨_,_,rfl,.inr ⟨b,0,rfl,λi hi=>?_⟩⟩;have e:i=0:=by simpa using hi
 subst e;simpa using h
def vu{v:Nat}{w:World}(h64:v<2^64)(eM:Hid ((vi v).length=M)):Cp 99 #[.U v] w λe w'=>∃p' c',e=.returned (.S p' M c')/\Own w.heap.size w' (.S p' M c') (vi v)/\Bw w w':=by
 have e:=ae eM;subst e;exact lQ h64
theorem aK7{l5 l6:LI}(e:Hid (lm=cat [l0,l1,l2,l3,l4,l5,l6]))(en:Le lm N)(r0:Rd X v0 l0)(r1:Rd X v1 l1)(r2:Rd X v2 l2)(r3:Rd X v3 l3)(r4:Rd X v4 l4)(r5:Rd X v5 l5)(r6:Rd X v6 l6)(hl:N<=4194304):Cp 98 #[.T X.heap.size 7 7] (X.alloc (.cells #[v0,v1,v2,v3,v4,v5,v6] 22)) λe w'=>∃p' c',e=.returned (.S p' N c')/\Own X.heap.size w' (.S p' N c') lm/\Bw X w':=by
 have ba:Bw X (X.alloc (.cells #[v0,v1,v2,v3,v4,v5,v6] 22)):=aA.alloc ay _;refine(fK (vs:=[v0,v1,v2,v3,v4,v5,v6]) [l0,l1,l2,l3,l4,l5,l6] 7 rfl e en ⟨rfl,λj v x e1 e2=>?_⟩ hl af).mono ?_;{
 match j,e1,e2 with
 |0,e1,e2=>simp at e1 e2;subst e1 e2;exact⟨al,r0.below ba⟩
 |1,e1,e2=>simp at e1 e2;subst e1 e2;exact⟨al,r1.below ba⟩
 |2,e1,e2=>simp at e1 e2;subst e1 e2;exact⟨al,r2.below ba⟩
 |3,e1,e2=>simp at e1 e2;subst e1 e2;exact⟨al,r3.below ba⟩
 |4,e1,e2=>simp at e1 e2;subst e1 e2;exact⟨al,r4.below ba⟩
 |5,e1,e2=>simp at e1 e2;subst e1 e2;exact⟨al,r5.below ba⟩
 |6,e1,e2=>simp at e1 e2;subst e1 e2;exact⟨al,r6.below ba⟩}
 {rintro e w'⟨p',c',rfl,o,hb⟩;exact⟨p',c',rfl,Own.mono o al,aj ba hb⟩}
def ZK(P V:LI)(ow:Nat)(mo:Int)(H:LI)(ep ge:Nat):LI:=cat [tx P,tx V,vi ow,[mo],liB qB H,vi ep,vi ge]
def rZ(nd:aD):LI:=ZK nd.path nd.value nd.owner.toNat nd.mode nd.holders nd.aE.toNat nd.gen.toNat
theorem Mv(p q r:OA)(n c m d k f:Nat)(U:Value)(P V H:LI)(ow ep ge:Nat)(mo:Int)(eP:Le P n)(eV:Le V m)(eH:Le H k)(w:World)(hP:Rd w (.S p n c) P)(hV:Rd w (.S q m d) V)(hH:oK w (.S r k f) H)(bn:Mg n)(bm:Mg m)(bk:k<=900)(hu:Hid (∀i∈H,0<=i/\i<2^64))(b1:ow<2^64)(b2:ep<2^64)(b3:ge<2^64)(bmo:0<=mo/\mo<=2)(N:Nat)(eN:Hid ((ZK P V ow mo H ep ge).length=N))(hN:N<=4194304):Calls prog 103 #[Yt (.S p n c) (.S q m d) ow mo (.S r k f) ep ge U] w λe w'=>∃p' c',e=.returned (.S p' N c')/\Own w.heap.size w' (.S p' N c') (ZK P V ow mo H ep ge)/\Bw w w':=by
 have HP:=ag λ(w':World)(hb:Bw w w')=>ai (hP.below hb) (ai (hV.below hb) (hH.below hb));clear hP hV hH;have wm:IntKind.u8.wrap mo=mo:=by rw[zJ];omega
 obtain⟨N0,e0⟩:∃M,Hid ((tx P).length=M):=⟨_,bD⟩;obtain⟨N1,e1⟩:∃M,Hid ((tx V).length=M):=⟨_,bD⟩;obtain⟨N2,e2⟩:∃M,Hid ((vi ow).length=M):=⟨_,bD⟩;obtain⟨N4,e4⟩:∃M,Hid ((liB qB H).length=M):=⟨_,bD⟩;obtain⟨N5,e5⟩:∃M,Hid ((vi ep).length=M):=⟨_,bD⟩;obtain⟨N6,e6⟩:∃M,Hid ((vi ge).length=M):=⟨_,bD⟩;have hN4:N4<=4194304:=by have h1:=ae eN;have h2:=ae e4;simp only[ZK,cat,sV,gU]at h1;omega
 have EE:Hid (ZK P V ow mo H ep ge=cat [tx P,tx V,vi ow,[mo],liB qB H,vi ep,vi ge]):=by show _=_;rfl
 let⟨W0,fL⟩:=aB (w.alloc (.cells #[.S p n c,.S q m d,.U ow,.I mo,.S r k f,.U ep,.U ge,U] 133))
 have bW0:=dX fL;have hA8:Of W0 w.heap.size (.S p n c) (.S q m d) (.U ow) (.I mo) (.S r k f) (.U ep) (.U ge) U:=by rw[fL];simp[Of,go_sem]
 go_in
 go_wp2_with fail;rw[<-fL]
 let⟨v,mY⟩:=aB W0.drew
 have BW:Hid (Bw w v):=mY▸bW0.drew;have S:Hid (Of v w.heap.size (.S p n c) (.S q m d) (.U ow) (.I mo) (.S r k f) (.U ep) (.U ge) U):=mY▸hA8;refine du (λw'=>Of w' w.heap.size (.S p n c) (.S q m d) (.U ow) (.I mo) (.S r k f) (.U ep) (.U ge) U) (mY▸ae S) λhS=>?_;rw[<-mY]at hS⊢;clear mY fL bW0 hA8;refine mj 0 1 3 4 6 7 9 10 hS ?_;refine lG 11 13 14 16 hS ?_;refine jR 17 19 hS ?_;refine tn 20 hS ?_
 iterate 7 (
  all_goals(first|refine I0 2 (λKK hK=>?_)|refine I0 5 (λKK hK=>?_)|refine I0 8 (λKK hK=>?_)|refine I0 15 (λKK hK=>?_)|refine I0 18 (λKK hK=>?_)|refine I0 21 (λKK hK=>?_)|refine I0 12 (λKK hK=>?_)|refine Tg 2 12 (λKK hK=>?_) (λKK hK=>?_)|refine Tg 5 12 (λKK hK=>?_) (λKK hK=>?_)|refine Tg 8 12 (λKK hK=>?_) (λKK hK=>?_)|refine Tg 12 15 (λKK hK=>?_) (λKK hK=>?_)|refine Tg 12 18 (λKK hK=>?_) (λKK hK=>?_)|refine Tg 12 21 (λKK hK=>?_) (λKK hK=>?_))
  all_goals(first
   |(
    refine Tag.go 2 ?_;refine iw (mn eP (ae HP _ BW).1 bn e0) ?_;rintro z9 v'⟨pA,cA,rfl,o,hb⟩;refine⟨_,rfl,?_⟩;have RA:=ag o.rd;clear o)
   |(
    refine Tag.go 5 ?_;refine iw (mn eV (ae HP _ BW).2.1 bm e1) ?_;rintro z9 v'⟨pB,cB,rfl,o,hb⟩;refine⟨_,rfl,?_⟩;have RB:=ag o.rd;clear o)
   |(
    refine Tag.go 8 ?_;refine iw (vu b1 e2) ?_;rintro z9 v'⟨pC,cC,rfl,o,hb⟩;refine⟨_,rfl,?_⟩;have RC:=ag o.rd;clear o)
   |(
    refine Tag.go 15 ?_;refine vU (Yw eH (ae HP _ BW).2.2 bk hu e4 hN4) ?_;rintro z9 v'⟨pD,cD,rfl,o,hb⟩;refine⟨_,rfl,?_⟩;have RD:=ag o.rd;clear o)
   |(
    refine Tag.go 18 ?_;refine iw (vu b2 e5) ?_;rintro z9 v'⟨pE,cE,rfl,o,hb⟩;refine⟨_,rfl,?_⟩;have RE:=ag o.rd;clear o)
   |(
    refine Tag.go 21 ?_;refine iw (vu b3 e6) ?_;rintro z9 v'⟨pF,cF,rfl,o,hb⟩;refine⟨_,rfl,?_⟩;have RF:=ag o.rd;clear o)
   |(
    refine Tag.go 12 ?_;go_simp
    let⟨v',hv⟩:=aB (v.alloc (.cells #[.int .u8 mo] 5))
    have hb:=dX hv;have hp:v'.cell? (Ad v.heap.size 0)=some (.int .u8 mo):=by rw[hv];simp
    rw[<-hv]
    let⟨GL,hGL⟩:=aB v.heap.size
    rw[<-hGL]at hp⊢;have RL:=ag (bD2 hp);clear hv hp hGL))
  all_goals(
   have S:=ag (S.below hb);have BW:=ag (aj BW hb)
   try have RA:=ag (RA.below hb)
   try have RB:=ag (RB.below hb)
   try have RC:=ag (RC.below hb)
   try have RD:=ag (RD.below hb)
   try have RE:=ag (RE.below hb)
   try have RF:=ag (RF.below hb)
   try have RL:=ag (RL.below hb)
   refine fh hK (by exact S) λhS=>?_;clear hK KK hb
   rename World=>v
   skip))
 all_goals(
  refine cX 22 (λKK hK=>?_);go_simp
  let⟨Y,hY⟩:=aB (v.alloc (.cells #[.S pA N0 cA,.S pB N1 cB,.S pC N2 cC,.T GL 1 1,.S pD N4 cD,.S pE N5 cE,.S pF N6 cF] 22))
  have hbY:=dX hY;have SY:=ag (S.below hbY);have JJ:=ag (aK7 EE eN RA RB RC RL RD RE RF hN);rw[<-hY]at JJ⊢;refine fh hK (by exact SY) λhS=>?_;clear hK KK hY hbY;refine cX 23 (λKK hK=>?_);refine iw JJ ?_;rintro z9 Z⟨pj,cj,rfl,oj,sE⟩;refine⟨_,rfl,?_⟩;have FI:=ag (ai (Own.mono (B':=w.heap.size) oj BW.size) (aj (ae BW) sE));refine fh hK (by exact S.below sE) λhS=>?_;clear hK KK oj sE;refine tn 24 hS ?_;refine cY ?_;clear hS;go_wp2;go_ret;exact⟨pj,cj,rfl,FI⟩
  skip)
def AU(s:aQ):LI:=vi s.1.toNat
def Mc(v:Nat)(d:Int)(p:OA)(n c:Nat)(w:World)(h64:v<2^64):Calls prog 101 #[.agg #[.U v,.I d,.S p n c]] w λe w'=>∃p' c',e=.returned (.S p' (vi v).length c')/\Own w.heap.size w' (.S p' (vi v).length c') (vi v)/\Bw w w':=by
 go_in
 go_wp2_with fail;have hb:Bw w (w.alloc (.cells #[.U v,.I d,.S p n c] 132)):=aA.alloc ay _;refine(lQ h64).mono ?_;rintro r w1⟨p1,c1,rfl,o1,b1⟩;have b2:=aj hb b1;have o2:=Own.mono (B':=w.heap.size) o1 al;clear o1 b1;go_wp2;go_ret;exact⟨p1,c1,rfl,o2,b2⟩
def Yx{l:List aQ}(en:Le l n){w:World}(h:kr w (.S p n c) l)(hn:n<=900)(hu:Hid (∀s∈l,0<=s.1/\s.1<2^64))(eN:Hid ((liB AU l).length=N))(hN:N<=4194304):Cp 100 #[.S p n c,.func (.func 101) #[] #[]] w λe w'=>∃p' c',e=.returned (.S p' N c')/\Own w.heap.size w' (.S p' N c') (liB AU l)/\Bw w w':=by
 have CS:=@Mc;exact liW
def DX(e g x:Nat)(ss:List aQ)(ns:List aD):LI:=cat [vi e,vi g,vi x,liB AU ss,liB rZ ns]
def W6{α:Type}(f:α->LI)(h:α->α)(hf:∀x,f (h x)=f x)(l:List α):liB f (l.map h)=liB f l:=by
 rw[liB,liB,fN,sR]
 congr 2
 exact GY λx _=>hf x
def Wq(e g x:Nat)(ss:List aQ)(ns:List aD):DX e g x (ss.map kh) (ns.map lx)=DX e g x ss ns:=by
 rw[DX,DX,W6 AU kh (λ_=>rfl),W6 rZ lx (λ_=>rfl)]
theorem Fj{α:Type}(f:α->LI)(C:Nat):∀l:List α,(∀x∈l,(f x).length<=C)->(cat (l.map f)).length<=C*l.length
 |[],_=>gr _
 |x::l,h=>by have h1:=Fj f C l λy hy=>h y (by simp[hy]);have h2:=h x al;rw[iH,cat,sV,gU,iS,aj5];rw[cat]at h1;omega
def ru{α:Type}(f:α->LI)(l:List α):liB f l=vi l.length++cat (l.map f):=by rw[liB,cat,sV,cat]
structure V9(ss:List aQ)(ns:List aD):Prop where
 n1:ss.length<=50
 n2:ns.length<=200
 s:∀s∈ss,0<=s.1/\s.1<2^64
 d:∀nd∈ns,(nd.path.length<=136/\nd.value.length<=40/\nd.holders.length<=50)/\(0<=nd.mode/\nd.mode<=2)/\(0<=nd.owner/\nd.owner<2^64)/\(0<=nd.aE/\nd.aE<2^64)/\(0<=nd.gen/\nd.gen<2^64)/\∀i∈nd.holders,0<=i/\i<2^64
def V9.w(h:V9 ss ns):SmW ss ns:=⟨fu h.n1 (by decide),fu h.n2 (by decide),h.s,λnd bu=>by
 let⟨⟨a,b,c⟩,d,e⟩:=h.d nd bu
 exact⟨⟨a,af,af⟩,af,e⟩⟩
def V9.dur(h:V9 ss ns):V9 (ss.map kh) (ns.map lx):=by
 refine⟨by rw[fN];exact h.n1,by rw[fN];exact h.n2,λs hs=>?_,λnd bu=>?_⟩;{obtain⟨s0,h0,rfl⟩:=iR.1 hs;exact h.s s0 h0};{obtain⟨n0,h0,rfl⟩:=iR.1 bu;exact h.d n0 h0}
def Um{e g x:Int}(h:kG e g x t ss ns=true)(IG:∀nd∈ns,(∀i∈nd.holders,0<=i/\i<2^64)/\∀i∈nd.watchers,0<=i/\i<2^64)(Xm:∀nd∈ns,0<=nd.owner/\nd.owner<2^64)(hep:∀nd∈ns,(0<=nd.aE/\nd.aE<2^64)/\0<=nd.gen/\nd.gen<2^64):V9 ss ns:=by
 let⟨h1,h2,h3,h4,h5⟩:=(FL e g x t ss ns).1 h
 simp only[Dp,jj]at h1;refine⟨af,af,Ma h2 af,λnd bu=>?_⟩;have hv:=h3;rw[kO,fk]at hv;have hv1:∀y∈ns,vV e g y=true:=(mB ns fU (vV e g)).1 λi hi=>jw.1 hv.1 i (Cc.2 hi);have Xh:=hv1 nd bu;simp only[vV,fk,jj]at Xh;obtain⟨g1,g2,g3,g4,g5⟩:=Xh;refine⟨⟨Lp g1,g2,?_⟩,?_,Xm nd bu,(hep nd bu).1,(hep nd bu).2,(IG nd bu).1⟩;{
 have ha:=Iu g4;have aM1:nd.holders.Nodup:=ha.imp (λ{a b}Tq=>af);have:=EP nd.holders (ss.map (·.1)) aM1 λi hi=>by have:=h5 nd bu i (by unfold xF;simp[hi]);obtain⟨z,hz,rfl⟩:=(Hc (ss:=ss) (i:=i)).1 this;exact iR.2 ⟨z,hz,rfl⟩
 rw[fN]at this;omega};{unfold ew at g3;split at g3;{omega};{simp only[fk]at g3;have:=g3.2.2;split at this;{omega};{simp only[fk,MF]at this;omega}}}
def My(h:SmW ss ns):∀nd∈ns,(rZ nd).length<=800/\(liB qB nd.holders).length<=520:=by
 intro nd bu;obtain⟨⟨h1,h2,h3⟩,-⟩:=h.d nd bu;have a1:=uy nd.path;have a2:=uy nd.value;have a3:=fg nd.owner.toNat;have a4:=fg nd.aE.toNat;have a5:=fg nd.gen.toNat;have a6:(liB qB nd.holders).length<=520:=by have b1:=fg nd.holders.length;have b2:=Fj qB 10 nd.holders λx _=>(fg _).2;rw[ru,gU];omega
 refine⟨?_,a6⟩;simp only[rZ,ZK,cat,sV,al6,gU,iS,BO];omega
def Wp(h:SmW ss ns):(DX e g x ss ns).length<=190000/\(liB AU ss).length<=600/\(liB rZ ns).length<=170000:=by
 have a1:=fg e;have a2:=fg g;have a3:=fg x;have b1:=fg ss.length;have b2:=Fj AU 10 ss λx _=>(fg _).2;have b3:=fg ns.length;have b4:=Fj rZ 800 ns λx hx=>(My h x hx).1;have:=h.n1;have:=h.n2;have c1:(liB AU ss).length<=600:=by rw[ru,gU];omega
 have c2:(liB rZ ns).length<=170000:=by rw[ru,gU];omega
 refine⟨?_,c1,c2⟩;simp only[DX,cat,sV,al6,gU,BO];omega
def Cr(e g x t:Int)(ss:List aQ)(ns:List aD):LI:=if kG e g x t ss ns=true then DX e.toNat g.toNat x.toNat ss ns else[]
def Own.nil(B:Nat)(w:World):Own B w aq []:=⟨rfl,.inl ⟨rfl,rfl⟩⟩
def Yy{l:List aD}(en:Le l n){w:World}(h:lM w (.S p n c) l)(hn:n<=900)(hu:Hid (V9 ss l))(eN:Hid ((liB rZ l).length=N))(hN:N<=4194304):Calls Tryz.prog 102 #[.S p n c,.func (.func 103) #[] #[]] w λe w'=>∃p' c',e=.returned (.S p' N c')/\Own w.heap.size w' (.S p' N c') (liB rZ l)/\Bw w w':=by
 have CN:=@Mv;exact liW
def aK6(e:Hid (lm=cat [l0,l1,l2,l3,l4]))(en:Le lm N)(r0:Rd X v0 l0)(r1:Rd X v1 l1)(r2:Rd X v2 l2)(r3:Rd X v3 l3)(r4:Rd X v4 l4)(hl:N<=4194304):Cp 98 #[.T X.heap.size 5 5] (X.alloc (.cells #[v0,v1,v2,v3,v4] 22)) λe w'=>∃p' c',e=.returned (.S p' N c')/\Own X.heap.size w' (.S p' N c') lm/\Bw X w':=by
 have ba:Bw X (X.alloc (.cells #[v0,v1,v2,v3,v4] 22)):=aA.alloc ay _;refine(fK [l0,l1,l2,l3,l4] 5 rfl e en (ag3 al al al al al (r0.below ba) (r1.below ba) (r2.below ba) (r3.below ba) (r4.below ba)) hl af).mono ?_;rintro e w'⟨p',c',rfl,o,hb⟩;exact⟨p',c',rfl,Own.mono o al,aj ba hb⟩
theorem Xf(he:e<2^64)(hg:g<2^64)(hx:x<2^64){q:OA}{m:Nat}(en:Le ss n)(em:Le ns m){w:World}(h:kr w (.S p n c) ss)(hN:lM w (.S q m d) ns)(hn:Mg n)(hm:Mg m)(qg:Hid (∀s∈ss,s.2.2.length<=1048576/\∀e∈s.2.2,aN e.2/\e.2.length<=1048576))(gh:Hid (∀nd∈ns,aN nd.path/\nd.path.length<=1048576/\nd.value.length<=1048576/\nd.holders.length<=1048576/\nd.watchers.length<=1048576))(IG:Hid (∀nd∈ns,(∀i∈nd.holders,0<=i/\i<2^64)/\∀i∈nd.watchers,0<=i/\i<2^64))(Xm:Hid (∀nd∈ns,0<=nd.owner/\nd.owner<2^64))(hep:Hid (∀nd∈ns,(0<=nd.aE/\nd.aE<2^64)/\0<=nd.gen/\nd.gen<2^64))(IK:ML w){R:LI}(eR:Hid (Cr e g x t ss ns=R))(eL:Le R L):Calls prog 48 #[dZ e g x t (.S p n c) (.S q m d)] w λr w'=>∃p' c',r=.returned (.S p' L c')/\Own w.heap.size w' (.S p' L c') R/\Bw w w':=by
 have HR:=ag λ(w':World)(hb:Bw w w')=>ai (h.below hb) (ai (hN.below hb) (IK.below hb));obtain⟨B,eB⟩:∃B,Hid (kG e g x t ss ns=B):=⟨_,bD⟩
 let⟨W,hW⟩:=aB (w.alloc (.cells #[.U e,.U g,.U x,.I t,.S p n c,.S q m d] 41))
 have bW:=dX hW;have yF:jD W w.heap.size e g x t (.S p n c) (.S q m d):=by rw[hW];simp[jD]
 have HC6:=ag yF
 go_in
 go_wp2_with fail;rw[<-hW];refine(ao2 en em (ae HR _ bW).1 (ae HR _ bW).2.1 hn hm qg gh IG Xm (ae HR _ bW).2.2 eB).mono ?_;rintro z9 w1⟨rfl,aG⟩;have b1:=aj bW aG;have C1:=ag (HC6.below aG);cases B with
 |false=>
  have e1:=ae eR;have e2:=ae eL;rw[Cr,bH (by rw[ae eB];simp)]at e1;subst e1;have e3:L=0:=e2.symm;subst e3;go_wp2;go_ret;exact⟨none,0,rfl,Own.nil _ _,b1⟩
 |true=>
  let⟨i0,i1,i2,i3,i4,i5⟩:=ae C1
  have hF:=Av eB qg gh;have HF:=ag hF;have hS:=Um eB IG Xm hep;have hRR:R=DX e g x (ss.map kh) (ns.map lx):=by have:=ae eR;rw[Cr,bO (ae eB)]at this;rw[<-this,Wq];simp
  have IJ:=hS.dur;have lens:=Wp (e:=e) (g:=g) (x:=x) IJ.w;have hn5:n<=50:=by have:=hS.n1;rw[ae en]at this;exact this
  have hm5:m<=200:=by have:=hS.n2;rw[ae em]at this;exact this
  let⟨sl,esl⟩:=aB (ss.map kh)
  let⟨nl,lK⟩:=aB (ns.map lx)
  have Vw:Le sl n:=by show _=_;rw[esl,fN];exact ae en
  have em2:Le nl m:=by show _=_;rw[lK,fN];exact ae em
  rw[<-esl,<-lK]at IJ hRR lens;have EE:Hid (R=cat [vi e,vi g,vi x,liB AU sl,liB rZ nl]):=hRR;have hL:L<=4194304:=by have h1:=lens.1;rw[<-hRR,ae eL]at h1;omega
  obtain⟨N0,e0⟩:∃M,Hid ((vi e).length=M):=⟨_,bD⟩;obtain⟨N1,e1⟩:∃M,Hid ((vi g).length=M):=⟨_,bD⟩;obtain⟨N2,e2⟩:∃M,Hid ((vi x).length=M):=⟨_,bD⟩;obtain⟨N3,e3⟩:∃M,Hid ((liB AU sl).length=M):=⟨_,bD⟩;obtain⟨N4,e4⟩:∃M,Hid ((liB rZ nl).length=M):=⟨_,bD⟩;have JA:N3<=4194304:=by have h1:=lens.2.1;rw[ae e3]at h1;omega
  have hN4:N4<=4194304:=by have h1:=lens.2.2;rw[ae e4]at h1;omega
  have DU:=ag IJ;have tJ:Hid (∀s∈sl,0<=s.1/\s.1<2^64):=IJ.s;have ESL:=ag esl;have ENL:=ag lK;have dU8:∀(vs:Array Value)(w:World),(callFunc 98 vs).run prog w=.ok (.enter 98 vs) w:=λvs w=>bg;have dU7:∀(vs:Array Value)(w:World),(callFunc 99 vs).run prog w=.ok (.enter 99 vs) w:=λvs w=>bg;have dU6:∀(vs:Array Value)(w:World),(callFunc 100 vs).run prog w=.ok (.enter 100 vs) w:=λvs w=>bg;have dU5:∀(vs:Array Value)(w:World),(callFunc 102 vs).run prog w=.ok (.enter 102 vs) w:=λvs w=>bg;go_wp2_with fail;refine(Sb en em (ae HR _ b1).1 (ae HR _ b1).2.1 hn hm HF gh IG).mono ?_;rintro z9 w2⟨ps,cs,pn,dn,rfl,ow2,aK⟩;have b2:=aj b1 aK;obtain⟨A1,A2,r1,r2,-⟩:=ow2;rw[<-ae ESL]at r1;rw[<-ae ENL]at r2;have R2:=ag (ai r1 r2);go_wp2_with fail
  let⟨W0,fL⟩:=aB (w2.alloc (.cells #[.U e,.U g,.U x,.I 0,.S ps n cs,.S pn m dn] 41))
  have bW0:=dX fL;have hA6:jD W0 w2.heap.size e g x 0 (.S ps n cs) (.S pn m dn):=by rw[fL];simp[jD]
  let⟨GB,hGB⟩:=aB w2.heap.size
  rw[<-fL];rw[<-hGB]at hA6⊢
  let⟨v0,mY⟩:=aB W0.drew
  have BW0:Hid (Bw w v0):=mY▸(aj b2 bW0).drew;have S0:Hid (jD v0 GB e g x 0 (.S ps n cs) (.S pn m dn)):=mY▸hA6;have D0:Hid (kr v0 (.S ps n cs) sl/\lM v0 (.S pn m dn) nl):=by rw[mY];exact⟨R2.1.below bW0.drew,R2.2.below bW0.drew⟩
  refine du (λw'=>jD w' GB e g x 0 (.S ps n cs) (.S pn m dn)) (mY▸ae S0) λhS=>?_;rw[<-mY]at hS⊢;clear mY fL bW0 hA6 hGB R2 b2;refine mj 0 1 3 4 6 7 9 10 hS ?_;refine jR 12 13 hS ?_;refine ry [2] ?_;refine cn (λKK hK=>?_) ?_;{
 refine iw (vu he e0) ?_;rintro z9 v1⟨pA,cA,rfl,oA,aG⟩;refine⟨_,rfl,?_⟩;have S1:=ag (S0.below aG);have BW1:=ag (aj BW0 aG);have D1:=ag (ai (D0.1.below aG) (D0.2.below aG));have RA1:=ag oA.rd;refine fh hK (by exact S1) λhS=>?_;refine cX 5 λKK hK=>?_;refine iw (vu hg e1) ?_;rintro z9 v2⟨pB,cB,rfl,oB,aK⟩;refine⟨_,rfl,?_⟩;have S2:=ag (S1.below aK);have BW2:=ag (aj BW1 aK);have D2:=ag (ai (D1.1.below aK) (D1.2.below aK));have RA2:=ag (RA1.below aK);have RB2:=ag oB.rd;refine fh hK (by exact S2) λhS=>?_;refine cX 8 λKK hK=>?_;refine iw (vu hx e2) ?_;rintro z9 v3⟨pC,cC,rfl,oC,br⟩;refine⟨_,rfl,?_⟩;have S3:=ag (S2.below br);have BW3:=ag (aj BW2 br);have D3:=ag (ai (D2.1.below br) (D2.2.below br));have RA3:=ag (RA2.below br);have RB3:=ag (RB2.below br);have RC3:=ag oC.rd;refine fh hK (by exact S3) λhS=>?_;refine cX 11 λKK hK=>?_;refine vU (Yx Vw D3.1 af tJ e3 JA) ?_;rintro z9 v4⟨pD,cD,rfl,oD,fy⟩;refine⟨_,rfl,?_⟩;have S4:=ag (S3.below fy);have BW4:=ag (aj BW3 fy);have D4:=ag (ai (D3.1.below fy) (D3.2.below fy));have RA4:=ag (RA3.below fy);have RB4:=ag (RB3.below fy);have RC4:=ag (RC3.below fy);have RD4:=ag oD.rd;refine fh hK (by exact S4) λhS=>?_;refine cX 14 λKK hK=>?_;refine vU (Yy em2 D4.2 af DU e4 hN4) ?_;rintro z9 v5⟨pE,cE,rfl,oE,fT⟩;refine⟨_,rfl,?_⟩;have S5:=ag (S4.below fT);have BW5:=ag (aj BW4 fT);have RA5:=ag (RA4.below fT);have RB5:=ag (RB4.below fT);have RC5:=ag (RC4.below fT);have RD5:=ag (RD4.below fT);have RE5:=ag oE.rd;refine fh hK (by exact S5) λhS=>?_;refine cX 15 λKK hK=>?_;go_simp
 let⟨Y,hY⟩:=aB (v5.alloc (.cells #[.S pA N0 cA,.S pB N1 cB,.S pC N2 cC,.S pD N3 cD,.S pE N4 cE] 22))
 have hbY:=dX hY;have SY:=ag (S5.below hbY);have JJ:=ag (aK6 EE eL RA5 RB5 RC5 RD5 RE5 hL);rw[<-hY]at JJ⊢;refine fh hK (by exact SY) λhS=>?_;refine cX 16 λKK hK=>?_;refine iw JJ ?_;rintro z9 Z⟨pj,cj,rfl,oj,sE⟩;refine⟨_,rfl,?_⟩;have FI:=ag (ai (Own.mono (B':=w.heap.size) oj BW5.size) (aj (ae BW5) sE));refine fh hK (by exact S5.below sE) λhS=>?_;refine tn 17 hS ?_;refine cY ?_;go_wp2;go_ret;exact⟨pj,cj,rfl,FI⟩};exact eh
def rL{α σ:Type}(f:σ->α×σ):Nat->σ->List α×σ
 |0,o=>([],o)
 |k+1,o=>((rL f k o).1++[(f (rL f k o).2).1],(f (rL f k o).2).2)
theorem aH6{α σ:Type}(f:σ->α×σ)(k:Nat)(o:σ):rL f (k+1) o=((f o).1::(rL f k (f o).2).1,(rL f k (f o).2).2):=by
 induction k with
 |zero=>rfl
 |succ k ih=>rw[rL,ih];rfl
theorem sK{α σ:Type}(f:σ->α×σ)(k:Nat)(o:σ):(rL f k o).1.length=k:=by
 induction k with
 |zero=>rfl
 |succ k ih=>rw[rL,gU,ih];rfl
theorem Mq{α:Type}(f:Option LI->α×Option LI)(g:α->LI):∀(xs:List α)(rest:LI),(∀x∈xs,∀r,f (some (g x++r))=(x,some r))->rL f xs.length (some (cat (xs.map g)++rest))=(xs,some rest)
 |[],rest,_=>rfl
 |x::xs,rest,h=>by rw[iS,aH6,iH,cat,sV,sX,h x al];have:=Mq f g xs rest λy hy=>h y (by simp[hy]);rw[cat]at this;simp only[this]
def px(o:Option LI):Option (aD×Option LI):=
 let a:=oT o
 let b:=oT a.2
 let c:=oV b.2
 let d:=oB c.2
 let h:=oV d.2
 if h.2=none\/50<h.1 then none
 else
  let l:=rL oV h.1.toNat h.2
  let e:=oV l.2
  let g:=oV e.2
  some (⟨a.1,b.1,c.1,d.1,l.1,e.1,g.1,[]⟩,g.2)
def fI:Nat->Option LI->Option (List aD×Option LI)
 |0,o=>some ([],o)
 |k+1,o=>(fI k o).bind λr=>(px r.2).map λq=>(r.1++[q.1],q.2)
theorem Pt(k:Nat)(o:Option LI):fI (k+1) o=(px o).bind λq=>(fI k q.2).map λr=>(q.1::r.1,r.2):=by
 induction k with
 |zero=>
  simp only[fI,zE,D9];cases px o<;>rfl
 | succ k ih=>
  rw[fI,ih];cases px o with
  |none=>rfl
  | some q=>
   simp only[zE];rw[fI];cases fI k q.2 with
   |none=>rfl
   |some r=>
    simp only[Jh,zE];cases px r.2<;>rfl
def Ti(i:Int):aQ:=(i,0,[])
def yQ(l:LI):Option ((Int×Int×Int)×List aQ×List aD×Option LI):=
 let a:=oV (some l)
 let b:=oV a.2
 let c:=oV b.2
 let d:=oV c.2
 if d.2=none\/50<d.1 then none
 else
  let s:=rL oV d.1.toNat d.2
  let m:=oV s.2
  if m.2=none\/200<m.1 then none
  else(fI m.1.toNat m.2).map λr=>((a.1,b.1,c.1),s.1.map Ti,r.1,r.2)
def dP(l:LI):Option ((Int×Int×Int)×List aQ×List aD):=
 (yQ l).bind λr=>if r.2.2.2≠none/\kG r.1.1 r.1.2.1 r.1.2.2 0 r.2.1 r.2.2.1=true/\DX r.1.1.toNat r.1.2.1.toNat r.1.2.2.toNat r.2.1 r.2.2.1=l then some (r.1,r.2.1,r.2.2.1)else none
def Gm(h:s<2^64):oV (some (vi s++r))=((s:Int),some r):=by
 rw[oV,Wx r h]
def aT5(P:LI)(h:P.length<2^64):oT (some (tx P++r))=(P,some r):=by
 rw[oT,af2 r h]
def Gl(h:0<=i/\i<2^64)(r:LI):oV (some (qB i++r))=(i,some r):=by
 rw[qB,Gm af,Df h.1]
def Uk(h:V9 ss ns)(bu:nd∈ns)(hw:nd.watchers=[])(r:LI):px (some (rZ nd++r))=some (nd,some r):=by
 let⟨⟨h1,h2,h3⟩,h4,h5,h6,h7,h8⟩:=h.d nd bu
 have e:rZ nd++r=tx nd.path++(tx nd.value++(qB nd.owner++([nd.mode]++(vi nd.holders.length++(cat (nd.holders.map qB)++(qB nd.aE++(qB nd.gen++r))))))):=by rw[rZ,ZK,ru];simp[cat,qB]
 rw[e,px];simp only[aT5 nd.path af,aT5 nd.value af,Gl h5,Ed,D9,oB];rw[Gm (s:=nd.holders.length) af];simp only[sS];rw[bH bq,Mq oV qB nd.holders _ λi hi r=>Gl (h8 i hi) r];simp only[Gl h6,Gl h7,kV,gy,aU5];rw[<-hw]
theorem CM(h:V9 ss ns):∀(xs:List aD)(r:LI),(∀x∈xs,x∈ns/\x.watchers=[])->fI xs.length (some (cat (xs.map rZ)++r))=some (xs,some r)
 |[],r,_=>rfl
 |x::xs,r,hx=>by rw[iS,Pt,iH,cat,sV,sX,Uk h (hx x al).1 (hx x al).2];have:=CM h xs r λy hy=>hx y (by simp[hy]);rw[cat]at this;simp only[zE,this,Jh]
def Wr(e g x:Nat)(ss:List aQ)(ns:List aD):DX e g x ss ns=vi e++(vi g++(vi x++(vi ss.length++(cat (ss.map AU)++(vi ns.length++(cat (ns.map rZ)++[])))))):=by
 rw[DX,ru,ru];simp[cat]
def aH1:ss.map AU=(ss.map (·.1)).map qB:=by
 rw[sR]
 rfl
def ao7(h:∀s∈ss,s.2=(0,[])):(ss.map (·.1)).map Ti=ss:=by
 rw[sR]
 conv=>rhs;rw[<-al9 ss]
 refine GY λs hs=>?_;obtain⟨a,b⟩:=s;have:=h _ hs;simp only at this;simp[Ti,this]
def Yf(he:e<2^64)(hg:g<2^64)(hx:x<2^64)(h:V9 ss ns)(h1:∀s∈ss,s.2=(0,[]))(h2:∀nd∈ns,nd.watchers=[]):yQ (DX e g x ss ns)=some (((e:Int),(g:Int),(x:Int)),ss,ns,some []):=by
 have n1:=h.n1;have n2:=h.n2;rw[Wr,yQ];simp only[Gm he,Gm hg,Gm hx,Gm (show ss.length<2^64 by omega),sS];have hr:rL oV ss.length (some (cat (ss.map AU)++(vi ns.length++(cat (ns.map rZ)++[]))))=(ss.map (·.1),some (vi ns.length++(cat (ns.map rZ)++[]))):=by
  have:=Mq oV qB (ss.map (·.1)) (vi ns.length++(cat (ns.map rZ)++[])) λi hi r=>by obtain⟨s,hs,rfl⟩:=iR.1 hi;exact Gl (h.s s hs) r
  rw[fN]at this;rw[aH1,this]
 rw[bH bq,hr];simp only[Gm (show ns.length<2^64 by omega),sS];rw[bH bq,CM h ns [] λy hy=>⟨hy,h2 y hy⟩,ao7 h1]
 rfl
abbrev Rs:Type:=LI×Bool
def jM(s:Rs):Int×Rs:=sN 10 0 0 s.1 s.2
def Ky{α:Type}(f:Rs->α×Rs):Nat->List α->Rs->List α×Rs
 |0,acc,s=>(acc,s)
 |k+1,acc,s=>if(f s).2.2=true then([],(f s).2)else Ky f k (acc++[(f s).1]) (f s).2
def lF{α:Type}(f:Rs->α×Rs)(s:Rs):List α×Rs:=Ky f (jM s).1.toNat [] (jM s).2
def sSe(s:Rs):aQ×Rs:=(Ti (jM s).1,(jM s).2)
def Ux(s:Rs):aD×Rs:=
 let a:=sT s.1 s.2
 let b:=sT a.2.1 a.2.2
 let c:=jM b.2
 let d:=sB c.2.1 c.2.2
 let h:=lF jM d.2
 let e:=jM h.2
 let g:=jM e.2
 (⟨a.1,b.1,c.1,d.1,h.1,e.1,g.1,[]⟩,g.2)
def qE(l:LI):(Int×Int×Int)×List aQ×List aD×Rs:=
 let a:=jM (l,false)
 let b:=jM a.2
 let c:=jM b.2
 let s:=lF sSe c.2
 let n:=lF Ux s.2
 ((a.1,b.1,c.1),s.1,n.1,n.2)
def jZ(l:LI):Option ((Int×Int×Int)×List aQ×List aD):=
 let r:=qE l
 if r.2.2.2.2=false/\Cr r.1.1 r.1.2.1 r.1.2.2 0 r.2.1 r.2.2.1=l then some (r.1,r.2.1,r.2.2.1)else none
def FT(h:s<2^64):jM (vi s++r,false)=((s:Int),r,false):=ae8 (rest:=r) (sh:=false) h
def yS(h:0<=i/\i<2^64)(r:LI):jM (qB i++r,false)=(i,r,false):=by
 rw[qB,FT af,Df h.1]
theorem QW{α:Type}(f:Rs->α×Rs)(g:α->LI):∀(xs acc:List α)(rest:LI),(∀x∈xs,∀r,f (g x++r,false)=(x,r,false))->Ky f xs.length acc (cat (xs.map g)++rest,false)=(acc++xs,rest,false)
 |[],acc,rest,_=>by simp[Ky,cat]
 |x::xs,acc,rest,h=>by rw[iS,Ky,iH,cat,sV,sX,h x al];have:=QW f g xs (acc++[x]) rest λy hy=>h y (by simp[hy]);rw[cat]at this;rw[bH al];simp only[this,sX,Ed,D9]
def MP{α:Type}(f:Rs->α×Rs)(g:α->LI)(xs:List α){rest:LI}(hl:xs.length<2^64)(h:∀x∈xs,∀r,f (g x++r,false)=(x,r,false)):lF f (vi xs.length++(cat (xs.map g)++rest),false)=(xs,rest,false):=by
 rw[lF,FT hl];simp only[sS];rw[QW f g xs [] rest h]
 rfl
def ae6(h:V9 ss ns)(bu:nd∈ns)(hw:nd.watchers=[]):Ux (rZ nd++r,false)=(nd,r,false):=by
 let⟨⟨h1,h2,h3⟩,h4,h5,h6,h7,h8⟩:=h.d nd bu
 have e:rZ nd++r=tx nd.path++(tx nd.value++(qB nd.owner++(nd.mode::(vi nd.holders.length++(cat (nd.holders.map qB)++(qB nd.aE++(qB nd.gen++r))))))):=by rw[rZ,ZK,ru];simp[cat,qB]
 rw[e,Ux];simp only[Ww nd.path (sh:=false) af,Ww nd.value (sh:=false) af,yS h5,sB];rw[MP jM qB nd.holders af λi hi r=>yS (h8 i hi) r];simp only[yS h6,yS h7,gy,aU5];rw[<-hw]
def YH(he:e<2^64)(hg:g<2^64)(hx:x<2^64)(h:V9 ss ns)(h1:∀s∈ss,s.2=(0,[]))(h2:∀nd∈ns,nd.watchers=[]):qE (DX e g x ss ns)=(((e:Int),(g:Int),(x:Int)),ss,ns,[],false):=by
 have n1:=h.n1;have n2:=h.n2;rw[Wr,qE];simp only[FT he,FT hg,FT hx];rw[MP sSe AU ss af λs hs r=>by have:=yS (h.s s hs) r;obtain⟨a,b⟩:=s;have hb:=h1 _ hs;simp only at hb;rw[sSe,AU,<-qB,this];simp[Ti,hb]]
 simp only;rw[MP Ux rZ ns af λy hy r=>ae6 h hy (h2 y hy) (r:=r)]
def mG{s:Rs}(h:s.2=true):(jM s).2.2=true:=Md 10 0 0 s.1 s.2 h
theorem an0{α:Type}(f:Rs->α×Rs)(hf:∀s:Rs,s.2=true->(f s).2.2=true):∀(k:Nat)(acc:List α)(s:Rs),s.2=true->(Ky f k acc s).2.2=true
 |0,_,_,h=>h
 |k+1,acc,s,h=>by rw[Ky,bO (hf s h)];exact hf s h
def MQ{α:Type}(f:Rs->α×Rs)(hf:∀s:Rs,s.2=true->(f s).2.2=true){s:Rs}(h:s.2=true):(lF f s).2.2=true:=an0 f hf _ _ _ (mG h)
def ae7(s:Rs)(h:s.2=true):(Ux s).2.2=true:=
 mG (mG (MQ jM (λ_=>mG) (EF (mG (Ez (Ez h))))))
def ao5:(qE []).2.2.2.2=true:=by
 have h0:(jM (([],false):Rs)).2.2=true:=by unfold jM;show(sN 10 0 0 [] false).2.2=true;rw[sN];simp[sB]
 exact MQ Ux ae7 (MQ sSe (λ_=>mG) (mG (mG h0)))
def U64(i:Int):Prop:=0<=i/\i<2^64
structure RgN(nd:aD):Prop where
 by0:aN nd.path
 by1:aN nd.value
 l0:nd.path.length<=1048576
 l1:nd.value.length<=1048576
 l4:nd.holders.length<=1048576
 l7:nd.watchers=[]
 ow:U64 nd.owner
 ep:U64 nd.aE
 ge:U64 nd.gen
 ho:∀i∈nd.holders,U64 i
 mo:0<=nd.mode/\nd.mode<256
def iG:U64 (oV om).1:=Gn
theorem Uz{α σ:Type}(f:σ->α×σ)(P:α->Prop)(I:σ->Prop)(hf:∀s,I s->P (f s).1/\I (f s).2)(k:Nat)(o:σ)(ho:I o):(∀x∈(rL f k o).1,P x)/\I (rL f k o).2:=by
 induction k with
 |zero=>exact⟨λx hx=>by simp[rL]at hx,ho⟩
 |succ k ih=>
  rw[rL]
  let⟨h1,h2⟩:=hf _ ih.2
  refine⟨λx hx=>?_,h2⟩;rcases gu.1 hx with hx|hx;{exact ih.1 x hx};{rw[nE]at hx;rw[hx];exact h1}
def ad8(en:l.length=n)(hb:aN l)(hl:Mg n)(hs:jV n l o)(h:px o=some (nd,o')):RgN nd/\jV n l o'/\nd.holders.length<=50:=by
 rw[px]at h;have s1:=Gp en hs;have s2:=Gp en s1;have s3:=gO en s2;have s4:=BH en s3;have s5:=gO en s4;have t0:=rh hb hs;have t1:=rh hb s1;have m0:=ah1 hb s3;simp only at h;split at h;{cases h};{
 next hc=>
 simp only[kV,gy]at h;obtain⟨rfl,rfl⟩:=h
 let⟨r1,r2⟩:=Uz oV U64 (jV n l) (λs hs=>⟨iG,gO en hs⟩) (oV (oB (oV (oT (oT o).2).2).2).2).1.toNat _ s5
 have hlen:=sK oV (oV (oB (oV (oT (oT o).2).2).2).2).1.toNat (oV (oB (oV (oT (oT o).2).2).2).2).2;have h50:(rL oV (oV (oB (oV (oT (oT o).2).2).2).2).1.toNat (oV (oB (oV (oT (oT o).2).2).2).2).2).1.length<=50:=by rw[hlen];simp only[Je,Int.not_lt]at hc;omega
 exact⟨⟨t0.1,t1.1,by have:=t0.2;simp only;omega,by have:=t1.2;simp only;omega,by simp only;omega,rfl,iG,iG,iG,r1,m0⟩,gO en (gO en r2),h50⟩}
theorem vz(en:l.length=n)(hb:aN l)(hl:Mg n)(k:Nat)(hs:jV n l o)(h:fI k o=some (ns,o')):(∀nd∈ns,RgN nd)/\jV n l o'/\ns.length=k:=by
 induction k generalizing ns o' with
 |zero=>
  simp only[fI,kV,gy]at h;obtain⟨rfl,rfl⟩:=h;exact⟨λnd bu=>(by simp at bu),hs,rfl⟩
 | succ k ih=>
  rw[fI]at h;cases h1:fI k o with
  |none=>rw[h1]at h;cases h
  | some r=>
   obtain⟨r1,r2⟩:=r;rw[h1]at h
   let⟨g1,g2,g3⟩:=ih h1
   simp only[zE]at h;cases h2:px r2 with
   |none=>rw[h2]at h;cases h
   |some q=>
    obtain⟨q1,q2⟩:=q;rw[h2]at h;simp only[Jh,kV,gy]at h;obtain⟨rfl,rfl⟩:=h;obtain⟨e1,e2,-⟩:=ad8 en hb hl g2 h2;refine⟨λnd bu=>?_,e2,by rw[gU,g3];rfl⟩;rcases gu.1 bu with bu|bu;{exact g1 nd bu};{rw[nE]at bu;rw[bu];exact e1}
def Okf{α:Type}(f:Rs->α×Rs)(P:α->Prop):Prop:=∀s:Rs,aN s.1->s.1.length<=1048576->P (f s).1/\aN (f s).2.1/\(f s).2.1.length<=s.1.length/\((f s).2.2=false->(f s).2.1.length<s.1.length)
theorem iQ:Okf jM U64:=λs hb hl=>by
 let⟨h1,h2,h3,h4⟩:=Gb 10 0 0 s.1 s.2 hb af
 refine⟨⟨h3,h4⟩,h1,h2,λhs=>?_⟩;obtain⟨m,sh⟩:=s;cases m with
 |nil=>
  have:(jM (([],sh):Rs)).2.2=true:=by unfold jM;show(sN 10 0 0 [] sh).2.2=true;rw[sN];simp[sB]
  rw[this]at hs;cases hs
 |cons c t=>
  show(sN 10 0 0 (c::t) sh).2.1.length<_;rw[sN];split;{simp[sB]};{have:=(Gb 9 (0+1) (uh 0 0 c) t sh (λz hz=>hb z (by simp[hz])) (tI)).2.1;simp only[sB,iS];omega}
theorem am9{α:Type}{f:Rs->α×Rs}{P:α->Prop}(hf:Okf f P):∀(k:Nat)(acc:List α)(s:Rs),aN s.1->s.1.length<=1048576->(∀x∈acc,P x)->(∀x∈(Ky f k acc s).1,P x)/\aN (Ky f k acc s).2.1/\(Ky f k acc s).2.1.length<=s.1.length/\(Ky f k acc s).1.length<=acc.length+s.1.length
 |0,acc,s,hb,hl,ha=>⟨ha,hb,iD _,Nat.le_add_right _ _⟩
 |k+1,acc,s,hb,hl,ha=>by
  let⟨h1,h2,h3,h4⟩:=hf s hb hl
  rw[Ky];split;{exact⟨λx hx=>(by simp at hx),h2,h3,gr _⟩};{
 next hs=>
 have Ho:(f s).2.2=false:=by simpa using hs
 have h5:=h4 Ho
 let⟨g1,g2,g3,g4⟩:=am9 hf k (acc++[(f s).1]) (f s).2 h2 af λx hx=>by rcases gu.1 hx with hx|hx;{exact ha x hx};{rw[nE]at hx;rw[hx];exact h1}
 refine⟨g1,g2,af,?_⟩;rw[gU]at g4;simp only[iS,BO]at g4;omega}
def Kz{α:Type}{f:Rs->α×Rs}{P:α->Prop}(hf:Okf f P){s:Rs}(hb:aN s.1)(hl:s.1.length<=1048576):(∀x∈(lF f s).1,P x)/\aN (lF f s).2.1/\(lF f s).2.1.length<=s.1.length/\(lF f s).1.length<=s.1.length:=by
 let⟨h1,h2,h3,h4⟩:=iQ s hb hl
 let⟨g1,g2,g3,g4⟩:=am9 hf (jM s).1.toNat [] (jM s).2 h2 af λx hx=>(by simp at hx)
 simp only[BO]at g4;exact⟨g1,g2,fu g3 h3,by unfold lF;omega⟩
def cR6(s:aQ):Prop:=U64 s.1/\s.2=(0,[])
def Uu:Okf sSe cR6:=λs hb hl=>by
 let⟨h1,h2,h3,h4⟩:=iQ s hb hl
 exact⟨⟨h1,rfl⟩,h2,h3,h4⟩
def Uw:Okf Ux RgN:=λs hb hl=>by
 let⟨a1,a2,a3,a4⟩:=By (sh:=s.2) hb
 let⟨b1,b2,b3,b4⟩:=By (sh:=(sT s.1 s.2).2.2) a2
 let⟨c1,c2,c3,c4⟩:=iQ (sT (sT s.1 s.2).2.1 (sT s.1 s.2).2.2).2 b2 af
 let⟨d1,d2,d3,d4⟩:=Bz (sh:=(jM (sT (sT s.1 s.2).2.1 (sT s.1 s.2).2.2).2).2.2) c2
 let⟨e1,e2,e3,e4⟩:=Kz iQ d1 af
 let⟨f1,f2,f3,f4⟩:=iQ (lF jM (sB (jM (sT (sT s.1 s.2).2.1 (sT s.1 s.2).2.2).2).2.1 (jM (sT (sT s.1 s.2).2.1 (sT s.1 s.2).2.2).2).2.2).2).2 e2 af
 let⟨g1,g2,g3,g4⟩:=iQ (jM (lF jM (sB (jM (sT (sT s.1 s.2).2.1 (sT s.1 s.2).2.2).2).2.1 (jM (sT (sT s.1 s.2).2.1 (sT s.1 s.2).2.2).2).2.2).2).2).2 f2 af
 refine⟨⟨a1,b1,by show _<=_;simp only[Ux];omega,by show _<=_;simp only[Ux];omega,by show _<=_;simp only[Ux];omega,rfl,c1,f1,g1,e1,⟨d2,d3⟩⟩,g2,?_,λhs=>?_⟩;{show(jM (jM (lF jM (sB (jM (sT (sT s.1 s.2).2.1 (sT s.1 s.2).2.2).2).2.1 (jM (sT (sT s.1 s.2).2.1 (sT s.1 s.2).2.2).2).2.2).2).2).2).2.1.length<=_;omega};{have:=g4 hs;show(jM (jM (lF jM (sB (jM (sT (sT s.1 s.2).2.1 (sT s.1 s.2).2.2).2).2.1 (jM (sT (sT s.1 s.2).2.1 (sT s.1 s.2).2.2).2).2.2).2).2).2).2.1.length<_;omega}
def Mh{e g x:Int}(h:kG e g x t ss ns=true)(hr:∀nd∈ns,RgN nd):V9 ss ns:=
 Um h (λnd bu=>⟨(hr nd bu).ho,λi hi=>by rw[(hr nd bu).l7]at hi;simp at hi⟩) (λnd bu=>(hr nd bu).ow) (λnd bu=>⟨(hr nd bu).ep,(hr nd bu).ge⟩)
theorem Yd(hb:aN l)(hl:Mg l.length):dP l=jZ l:=by
 have tu:∀s,dP l=some s->jZ l=some s:=λs h=>by
  rw[dP]at h;cases hr:yQ l with
  |none=>rw[hr]at h;cases h
  |some r=>
   rw[hr,zE]at h;split at h;{
 next hc=>
 obtain⟨⟨e,g,x⟩,ss,ns,o⟩:=r;simp only[kV]at h hc;obtain⟨-,iI,hB⟩:=hc;have db:=hr;rw[yQ]at db;simp only at db;have q1:=jV.start (n:=l.length) (l:=l) rfl;have q2:=gO rfl q1;have q3:=gO rfl q2;have q4:=gO rfl q3;have q5:=gO rfl q4;split at db;{cases db};{
 let⟨u1,u2⟩:=Uz oV U64 (jV l.length l) (λs hs=>⟨iG,gO rfl hs⟩) (oV (oV (oV (oV (some l)).2).2).2).1.toNat _ q5
 split at db;{cases db};{
 rw[Dg]at db;obtain⟨⟨r1,r2⟩,h3,h4⟩:=db;obtain⟨v1,-,-⟩:=vz rfl hb hl _ (gO rfl u2) h3;simp only[gy]at h4;obtain⟨⟨rfl,rfl,rfl⟩,rfl,rfl,rfl⟩:=h4;have hS:=Mh iI v1;have z1:=iG (om:=some l);have z2:=iG (om:=(oV (some l)).2);have z3:=iG (om:=(oV (oV (some l)).2).2);have w1:∀s∈((rL oV (oV (oV (oV (oV (some l)).2).2).2).1.toNat (oV (oV (oV (oV (some l)).2).2).2).2).1.map Ti),s.2=(0,[]):=λs hs=>by
  obtain⟨i,-,rfl⟩:=iR.1 hs
  rfl
 have him:=YH (e:=(oV (some l)).1.toNat) (g:=(oV (oV (some l)).2).1.toNat) (x:=(oV (oV (oV (some l)).2).2).1.toNat) (by have:=z1.2;have:=z1.1;omega) (by have:=z2.2;have:=z2.1;omega) (by have:=z3.2;have:=z3.1;omega) hS w1 (λnd bu=>(v1 nd bu).l7);rw[hB,Df z1.1,Df z2.1,Df z3.1]at him;rw[jZ];simp only[him];rw[bO ⟨km,by rw[Cr,bO iI];exact hB⟩,<-h]}}};{cases h}
 have fro:∀s,jZ l=some s->dP l=some s:=λs h=>by
  rw[jZ]at h;split at h;{
 next hc=>
 obtain⟨hsh,hE⟩:=hc;have iI:kG (qE l).1.1 (qE l).1.2.1 (qE l).1.2.2 0 (qE l).2.1 (qE l).2.2.1=true:=by by_cases hk:kG (qE l).1.1 (qE l).1.2.1 (qE l).1.2.2 0 (qE l).2.1 (qE l).2.2.1=true;{exact hk};{rw[Cr,bH hk]at hE;rw[<-hE,ao5]at hsh;cases hsh}
 rw[Cr,bO iI]at hE;obtain⟨a1,a2,a3,-⟩:=iQ (l,false) hb hl;obtain⟨b1,b2,b3,-⟩:=iQ (jM (l,false)).2 a2 (by simp only at a3;omega);obtain⟨c1,c2,c3,-⟩:=iQ (jM (jM (l,false)).2).2 b2 (by simp only at a3;omega);obtain⟨d1,d2,d3,-⟩:=Kz Uu c2 (by simp only at a3;omega);obtain⟨e1,-⟩:=Kz Uw d2 (by simp only at a3;omega);have hS:=Mh iI e1;have hsp:=Yf (e:=(qE l).1.1.toNat) (g:=(qE l).1.2.1.toNat) (x:=(qE l).1.2.2.toNat) (by have:=a1.2;have:=a1.1;show(jM (l,false)).1.toNat<_;omega) (by have:=b1.2;have:=b1.1;show(jM (jM (l,false)).2).1.toNat<_;omega) (by have:=c1.2;have:=c1.1;show(jM (jM (jM (l,false)).2).2).1.toNat<_;omega) hS (λs hs=>(d1 s hs).2) (λnd bu=>(e1 nd bu).l7);rw[hE,Df (show 0<=(qE l).1.1 from a1.1),Df (show 0<=(qE l).1.2.1 from b1.1),Df (show 0<=(qE l).1.2.2 from c1.1)]at hsp;rw[dP,hsp,zE,bO ⟨al,iI,hE⟩];exact h};{cases h}
 cases h:dP l with
 |some s=>exact(tu s h).symm
 |none=>
  cases h2:jZ l with
  |none=>rfl
  |some s=>rw[fro s h2]at h;cases h
def AD(h:∀l∈ls,aN l):aN (cat ls):=λz hz=>by
 rw[cat,Gu]at hz;obtain⟨l,hl,hz⟩:=hz;exact h l hl z hz
def yL(h:U64 i):aN (qB i):=ky (by have:=h.1;have:=h.2;omega)
def ac3(h:aN l)(hl:l.length<2^64):aN (tx l):=aN.app (ky hl) h
def aJ0(h:RgN nd):aN (rZ nd):=by
 rw[rZ,ZK];refine AD λl hl=>?_;simp only[jv,GF,xl]at hl;rcases hl with rfl|rfl|rfl|rfl|rfl|rfl|rfl;{exact ac3 h.by0 (aI h.l0)};{exact ac3 h.by1 (aI h.l1)};{exact yL h.ow};{intro z hz;rw[nE]at hz;rw[hz];exact h.mo};{rw[liB];refine AD λl hl=>?_;rcases jv.1 hl with rfl|hl;{exact ky (aI h.l4)};{obtain⟨i,hi,rfl⟩:=iR.1 hl;exact yL (h.ho i hi)}};{exact yL h.ep};{exact yL h.ge}
def L5(he:e<2^64)(hg:g<2^64)(hx:x<2^64)(h:V9 ss ns)(hr:∀nd∈ns,RgN nd):aN (DX e g x ss ns):=by
 have n1:=h.n1;have n2:=h.n2;rw[DX];refine AD λl hl=>?_;simp only[jv,GF,xl]at hl;rcases hl with rfl|rfl|rfl|rfl|rfl;{exact ky he};{exact ky hg};{exact ky hx};{rw[liB];refine AD λl hl=>?_;rcases jv.1 hl with rfl|hl;{exact ky af};{obtain⟨s,hs,rfl⟩:=iR.1 hl;exact yL (h.s s hs)}};{rw[liB];refine AD λl hl=>?_;rcases jv.1 hl with rfl|hl;{exact ky af};{obtain⟨nd,bu,rfl⟩:=iR.1 hl;exact aJ0 (hr nd bu)}}
variable {o:Obj}
def sw{w w':World}(h:w.heap[b]?=some o)(hb:Bw w w'):w'.heap[b]?=some o:=(hb.block b (Jg.1 h).1).trans h
def XI{w:World}:(w.alloc o).heap[w.heap.size]?=some o:=by unfold World.alloc;simp
def Li{w w':World}(ho:Own B w v l)(hg:w.grownBy w' v.ownBlock):∀(b:Nat)(cs:Array Value)(t:TypeId),t≠5->w.heap[b]?=some (.cells cs t)->w'.heap[b]?=some (.cells cs t):=λb cs t ht h=>by
 refine(hg.block b (Jg.1 h).1 λe=>?_).trans h;rcases ho.2 with⟨rfl,-⟩|⟨g,cap,cur,rfl,-,hh,-⟩;{simp[Value.ownBlock]at e};{simp only[Value.ownBlock,kV]at e;subst e;rw[h]at hh;simp only[kV,Obj.cells.injEq]at hh;exact ht hh.2.1}
def ba6(w w':World):Prop:=∀(b:Nat)(cs:Array Value)(t:TypeId),t≠5->w.heap[b]?=some (.cells cs t)->w'.heap[b]?=some (.cells cs t)
variable {x s:Operand}{o:Oper}
def Tz{w0 w:World}{Q:Exit->Act->World->Prop}(ng:o.guard=none) (ho:o.op=.call {callee:=.builtin .append,args:=#[s,x],argTypes:=#[22,22]})(hB:Hid (Bw w0 w))(wo:Hid (lm=l++m))(hk:Le m k)(eL:Le l L)(eL':Hid (L'=L+k))(hs:a.eval s=v)(hx:a.eval x=.S p k c)(bR:Hid (Own w0.heap.size w v l))(hr:Hid (Rd w (.S p k c) m))(hl:L+k<=4194304)(hK:∀p' c' w',Hid (Own w0.heap.size w' (.S p' L' c') lm)->Le lm L'->Hid (Bw w0 w')->Hid (ba6 w w')->wpList prog ops Q rest (a.put o.dst (.S p' L' c')) w'):wpList prog ops Q (o::rest) a w:=by
 have e1:lm.length=L':=by rw[ae wo,gU,ae eL,ae hk,ae eL']
 refine bQ ng ho v wo p c k hk hs hx (ae bR) (ae hr) (by rw[ae eL,ae hk];exact hl) hB.size ?_;intro p' c' w' h1 h2;rw[e1]at h1⊢;exact hK p' c' w' h1 e1 (dA hB h2 bR ay hB.size) (Li bR h2)
def OJ{Q:Exit->Act->World->Prop}(ng:o.guard=none) (ho:o.op=.call {callee:=.builtin .append,args:=#[s,x],argTypes:=#[22,22]})(hB:Hid (Bw w0 u))(wo:Hid (lm=l++[y]))(eL:Le l L)(eL':Hid (L'=L+1))(hs:a.eval s=v)(hx:a.eval x=.T u.heap.size 1 1)(bR:Hid (Own w0.heap.size u v l))(hl:L<4194304)(hK:∀p' c' w',Hid (Own w0.heap.size w' (.S p' L' c') lm)->Le lm L'->Hid (Bw w0 w')->Hid (ba6 u w')->wpList prog ops Q rest (a.put o.dst (.S p' L' c')) w'):wpList prog ops Q (o::rest) a (u.alloc (.cells #[.int .u8 y] 5)):=by
 have e1:lm.length=L':=by rw[ae wo,gU,ae eL,ae eL'];rfl
 have hb:Bw u (u.alloc (.cells #[.int .u8 y] 5)):=aA.alloc ay _;have qy:=bR.below hb;have jg:=aj hB hb;refine fe ng ho v wo u.heap.size hs hx qy al (ae eL▸hl) jg.size ?_;intro p' c' w' h1 h2;rw[e1]at h1⊢;exact hK p' c' w' h1 e1 (dA jg h2 qy ay jg.size) λb cs t ht h=>Li qy h2 b cs t ht (sw h hb)
def jD.dO{w:World}{e g x:Int}{S N:Value}(h:w.heap[b]?=some (.cells #[.U e,.U g,.U x,.I t,S,N] ty)):jD w b e g x t S N:=⟨ao h 0,ao h 1,ao h 2,ao h 3,ao h 4,ao h 5⟩
def Of.dO{w:World}(h:w.heap[b]?=some (.cells #[v0,v1,v2,v3,v4,v5,v6,v7] ty)):Of w b v0 v1 v2 v3 v4 v5 v6 v7:=⟨ao h 0,ao h 1,ao h 2,ao h 3,ao h 4,ao h 5,ao h 6,ao h 7⟩
def pZ{v:Nat}{w:World}(h64:v<2^64)(eM:Hid ((vi v).length=M)):Cp 77 #[.U v] w λe w'=>∃p' c',e=.returned (.S p' M c')/\Own w.heap.size w' (.S p' M c') (vi v)/\Bw w w':=Cf 9 v w af h64 af M eM
def rC{α:Type}(f:α->LI){l:List α}{y:α}(h:l[k]?=some y):cat ((l.take (k+1)).map f)=cat ((l.take k).map f)++f y:=by
 rw[od,h,l8,cat,GG,cat];simp
def bd3(e g x:Nat)(ss:List aQ)(ns:List aD):DX e g x ss ns=((((vi e++vi g)++vi x)++vi ss.length)++cat (ss.map AU)++vi ns.length)++cat (ns.map rZ):=by
 rw[DX,ru,ru];simp[cat]
def bf1(nd:aD):rZ nd=((((((tx nd.path++tx nd.value)++qB nd.owner)++[nd.mode])++vi nd.holders.length)++cat (nd.holders.map qB))++qB nd.aE)++qB nd.gen:=by
 rw[rZ,ZK,ru];simp[cat,qB]
def Bn(w0:World)(c1:Array Value)(t1:TypeId)(b2:Nat)(c2:Array Value)(t2:TypeId)(w:World)(v:Value)(l:LI):Prop:=Own w0.heap.size w v l/\Bw w0 w/\w.heap[w0.heap.size]?=some (.cells c1 t1)/\w.heap[b2]?=some (.cells c2 t2)
def Bn.Tu{w0 w w':World}(h:Bn w0 c1 t1 b2 c2 t2 w v l)(hb:Bw w w'):Bn w0 c1 t1 b2 c2 t2 w' v l:=⟨Own.below h.1 hb,aj h.2.1 hb,sw h.2.2.1 hb,sw h.2.2.2 hb⟩
def fG{w0 w:World}{Q:Exit->Act->World->Prop}(ng:o.guard=none)(ho:o.op=.call {callee:=.builtin .append,args:=#[s,x],argTypes:=#[22,22]})(hQ:Hid (Bn w0 c1 t1 b2 c2 t2 w v l))(wo:Hid (lm=l++m))(hk:Le m k)(eL:Le l L)(hs:a.eval s=v)(hx:a.eval x=.S p k c)(hr:Hid (Rd w (.S p k c) m))(hl:L+k<=4194304)(hK:∀p' c' w' L',Hid (Bn w0 c1 t1 b2 c2 t2 w' (.S p' L' c') lm)->Le lm L'->L'<=L+k->wpList prog ops Q rest (a.put o.dst (.S p' L' c')) w')(h1:t1≠5:=by decide)(h2:t2≠5:=by decide):wpList prog ops Q (o::rest) a w:=
 Tz ng ho (ag hQ.2.1) wo hk eL (ag rfl) hs hx (ag hQ.1) hr hl λp' c' w' k1 k2 k3 k4=>hK p' c' w' _ (ag ⟨k1,k3,k4 _ _ _ h1 hQ.2.2.1,k4 _ _ _ h2 hQ.2.2.2⟩) k2 ay
def TC{Q:Exit->Act->World->Prop}(ng:o.guard=none)(ho:o.op=.call {callee:=.builtin .append,args:=#[s,x],argTypes:=#[22,22]})(hQ:Hid (Bn w0 c1 t1 b2 c2 t2 u v l))(wo:Hid (lm=l++[y]))(eL:Le l L)(hs:a.eval s=v)(hx:a.eval x=.T u.heap.size 1 1)(hl:L<4194304)(hK:∀p' c' w' L',Hid (Bn w0 c1 t1 b2 c2 t2 w' (.S p' L' c') lm)->Le lm L'->L'<=L+1->wpList prog ops Q rest (a.put o.dst (.S p' L' c')) w')(h1:t1≠5:=by decide)(h2:t2≠5:=by decide):wpList prog ops Q (o::rest) a (u.alloc (.cells #[.int .u8 y] 5)):=
 OJ ng ho (ag hQ.2.1) wo eL (ag rfl) hs hx (ag hQ.1) hl λp' c' w' k1 k2 k3 k4=>hK p' c' w' _ (ag ⟨k1,k3,k4 _ _ _ h1 hQ.2.2.1,k4 _ _ _ h2 hQ.2.2.2⟩) k2 ay
def KE{x:Nat}(he:e<2^64)(hg:g<2^64)(hx:x<2^64){q:OA}{m:Nat}(en:Le ss n)(em:Le ns m){w:World}(h:vk w (.S p n c) ss)(hN:lM w (.S q m d) ns)(HS:Hid (SmW ss ns))(eN:Hid ((DX e g x ss ns).length=N)):Calls prog 36 #[dZ e g x t (.S p n c) (.S q m d)] w λr w'=>∃p' c',r=.returned (.S p' N c')/\Own w.heap.size w' (.S p' N c') (DX e g x ss ns)/\Bw w w':=by
 have HR:=ag λ(w':World)(hb:Bw w w')=>ai (h.below hb) (hN.below hb);have hn5:n<=51:=by have:=HS.n1;rw[ae en]at this;exact this
 have hm5:m<=201:=by have:=HS.n2;rw[ae em]at this;exact this
 have wn:IntKind.u64.wrap (n:Int)=(n:Int):=by rw[mK];omega
 have wm:IntKind.u64.wrap (m:Int)=(m:Int):=by rw[mK];omega
 obtain⟨M0,f0⟩:∃M,Hid ((vi e).length=M):=⟨_,bD⟩;have hM0:M0<=10:=by have:=(fg e).2;rw[ae f0]at this;exact this
 obtain⟨M1,f1⟩:∃M,Hid ((vi g).length=M):=⟨_,bD⟩;have hM1:M1<=10:=by have:=(fg g).2;rw[ae f1]at this;exact this
 obtain⟨M2,f2⟩:∃M,Hid ((vi x).length=M):=⟨_,bD⟩;have hM2:M2<=10:=by have:=(fg x).2;rw[ae f2]at this;exact this
 obtain⟨M3,f3⟩:∃M,Hid ((vi n).length=M):=⟨_,bD⟩;have hM3:M3<=10:=by have:=(fg n).2;rw[ae f3]at this;exact this
 obtain⟨M5,f5⟩:∃M,Hid ((vi m).length=M):=⟨_,bD⟩;have hM5:M5<=10:=by have:=(fg m).2;rw[ae f5]at this;exact this
 obtain⟨A1,Rz⟩:∃l,Hid (l=vi e++vi g):=⟨_,bD⟩;obtain⟨A2,Vp⟩:∃l,Hid (l=A1++vi x):=⟨_,bD⟩;obtain⟨A3,hA3⟩:∃l,Hid (l=A2++vi n):=⟨_,bD⟩
 let⟨W,hW⟩:=aB (w.alloc (.cells #[.U e,.U g,.U x,.I t,.S p n c,.S q m d] 41))
 have BW:Hid (Bw w W):=hW▸aA.alloc ay _;have KW:Hid (W.heap[w.heap.size]?=some (.cells #[.U e,.U g,.U x,.I t,.S p n c,.S q m d] 41)):=hW▸XI
 go_in
 go_wp2_with fail;rw[<-hW];refine(pZ he f0).mono ?_;rintro z9 y1⟨py1,cy1,rfl,oy1,aN0⟩;have By1:=ag (aj BW aN0);have Ky1:=ag (sw KW aN0);have Oy1:=ag (Own.mono (B':=w.heap.size) oy1 BW.size);have Qy1:Hid (Bn w #[.U e,.U g,.U x,.I t,.S p n c,.S q m d] 41 w.heap.size #[.U e,.U g,.U x,.I t,.S p n c,.S q m d] 41 y1 (.S py1 M0 cy1) (vi e)):=⟨Oy1,By1,Ky1,Ky1⟩
 let⟨i0,i1,i2,i3,i4,i5⟩:=jD.dO Qy1.2.2.1
 go_wp2_with fail;refine(pZ hg f1).mono ?_;rintro z9 y2⟨py2,cy2,rfl,oy2,cF0⟩;have Qy2:=ag (Qy1.Tu cF0);have Ry2:=ag oy2.rd;go_wp2_with(at_builtin;refine fG rfl rfl Qy2 Rz f1 f0 rfl rfl Ry2 af ?_);intro dJ5 eg6 y3 Ly3 Qy3 cN1 ei4
 let⟨i0,i1,i2,i3,i4,i5⟩:=jD.dO Qy3.2.2.1
 go_wp2_with fail;refine(pZ hx f2).mono ?_;rintro z9 y4⟨py4,cy4,rfl,oy4,cE9⟩;have Qy4:=ag (Qy3.Tu cE9);have Ry4:=ag oy4.rd;go_wp2_with(at_builtin;refine fG rfl rfl Qy4 Vp f2 cN1 rfl rfl Ry4 af ?_);intro dJ4 eg5 y5 Ly5 Qy5 cN0 ei3
 let⟨i0,i1,i2,i3,i4,i5⟩:=jD.dO Qy5.2.2.1
 go_wp2_with fail;refine(pZ af f3).mono ?_;rintro z9 y6⟨py6,cy6,rfl,oy6,cE8⟩;have Qy6:=ag (Qy5.Tu cE8);have Ry6:=ag oy6.rd;go_wp2_with(at_builtin;refine fG rfl rfl Qy6 hA3 f3 cN0 rfl rfl Ry6 af ?_);intro dJ3 eg4 y7 Ly7 Qy7 cM9 ei2;have lA3:Le A3 Ly7:=cM9;have bA3:Ly7<=40:=af
 let⟨i0,i1,i2,i3,i4,i5⟩:=jD.dO Qy7.2.2.1
 go_wp2
 go_loopw[3,4](λov iv wr=>∃(k:Nat)(po:OA)(co L:Nat),k<=n/\ov=.S po L co/\iv=.I k/\L<=40+10*k/\Hid ((A3++cat ((ss.take k).map AU)).length=L)/\Hid (Own w.heap.size wr (.S po L co) (A3++cat ((ss.take k).map AU)))/\Hid (wr.heap[w.heap.size]?=some (.cells #[.U e,.U g,.U x,.I t,.S p n c,.S q m d] 41))/\Hid (Bw w wr)) (λ_ iv _=>n-(intOf iv).toNat)
 exact⟨0,_,_,_,gr _,rfl,rfl,af,(by show _=_;simp only[rj,Eb,vO,BI];exact ae lA3),(by show Own _ _ _ _;simp only[rj,Eb,vO,BI];exact Qy7.1),Qy7.2.2.1,Qy7.2.1⟩;{
 obtain⟨k,po,co,L,hk,rfl,rfl,hLk,eL,Or,Kr,Br⟩:=hrel;by_cases bf:k<n;{
 have bL:=aU k n;have dT:k<ss.length:=ae en▸bf
 let⟨sk0,hy⟩:=lE dT
 have hi:=HS.s _ (aT hy);obtain⟨v,ev⟩:∃v:Nat,sk0.1=(v:Int):=⟨sk0.1.toNat,af⟩;obtain⟨b,o,rfl,tv⟩:∃b o,p=some (Ad b o)/\wr.cell? (Ad b (o+k*3))=some (.U v):=by
  let⟨p',c',evv,hd⟩:=(ae HR _ Br).1
  obtain⟨rfl,-,-⟩:=ir evv;rcases hd with h0|⟨b,o,h1,h2⟩;{rw[h0]at dT;simp at dT};{exact⟨b,o,h1,by rw[<-ev];exact(h2 k _ hy).1⟩}
 rw[ev]at hi;have eS:Hid (AU sk0=vi v):=by show _=_;rw[AU,ev];rfl
 obtain⟨M,eM⟩:∃M,Hid ((vi v).length=M):=⟨_,bD⟩;have hM:M<=10:=by have:=(fg v).2;rw[ae eM]at this;exact this
 obtain⟨A,hA⟩:∃A,Hid (A=A3++cat ((ss.take k).map AU)):=⟨_,bD⟩;rw[<-ae hA]at eL Or;obtain⟨AA,hAA⟩:∃l,Hid (l=A++vi v):=⟨_,bD⟩;have EA:Hid (A3++cat ((ss.take (k+1)).map AU)=AA):=by show _=_;rw[ae hAA,ae hA,rC AU hy,ae eS,sX]
 have wk:IntKind.i64.wrap ((k:Int)+1)=((k+1:Nat):Int):=by rw[kU _ af];omega
 have Qr:=ag (show Bn w _ _ w.heap.size _ _ _ _ _ from⟨Or,Br,Kr,Kr⟩)
 let⟨i0,i1,i2,i3,i4,i5⟩:=jD.dO Kr
 go_wp2_with fail;refine(pZ af eM).mono ?_;rintro z9 y8⟨py8,cy8,rfl,oy8,cE7⟩;have Qy8:=ag (Qr.Tu cE7);have Ry8:=ag oy8.rd;go_wp2_with(at_builtin;refine fG rfl rfl Qy8 hAA eM eL rfl rfl Ry8 af ?_);intro dJ2 eg3 y9 Ly9 Qy9 cM8 ei1
 let⟨i0,i1,i2,i3,i4,i5⟩:=jD.dO Qy9.2.2.1
 go_wp2;go_roundw;exact⟨k+1,_,_,_,af,rfl,by go_num,af,(ae EA▸cM8),(ae EA▸Qy9.1),Qy9.2.2.1,Qy9.2.1⟩;exact cg};{
 have bL:=dB k n;have Cu:n=k:=af;subst Cu;rw[lD (ae en▸iD _)]at eL Or;obtain⟨A4,hA4⟩:∃A,Hid (A=A3++cat (ss.map AU)):=⟨_,bD⟩;rw[<-ae hA4]at eL Or;obtain⟨A5,hA5⟩:∃A,Hid (A=A4++vi m):=⟨_,bD⟩;have Qr:=ag (show Bn w _ _ w.heap.size _ _ _ _ _ from⟨Or,Br,Kr,Kr⟩)
 let⟨i0,i1,i2,i3,i4,i5⟩:=jD.dO Kr
 go_wp2_with fail;refine(pZ af f5).mono ?_;rintro z9 y10⟨dI9,ef9,rfl,cs5,bM2⟩;have cT8:=ag (Qr.Tu bM2);have cS6:=ag cs5.rd;go_wp2_with(at_builtin;refine fG rfl rfl cT8 hA5 f5 eL rfl rfl cS6 af ?_);intro de7 ds5 y11 cU2 aS0 bT9 dt9;have bA5:cU2<=600:=af;have EN:Hid (DX e g x ss ns=A5++cat (ns.map rZ)):=by show _=_;rw[bd3,ae hA5,ae hA4,ae hA3,ae Vp,ae Rz,ae en,ae em]
 let⟨i0,i1,i2,i3,i4,i5⟩:=jD.dO aS0.2.2.1
 go_wp2
 go_loopw[3,5](λov iv wr=>∃(k:Nat)(po:OA)(co L:Nat),k<=m/\ov=.S po L co/\iv=.I k/\L<=600+800*k/\Hid ((A5++cat ((ns.take k).map rZ)).length=L)/\Hid (Own w.heap.size wr (.S po L co) (A5++cat ((ns.take k).map rZ)))/\Hid (wr.heap[w.heap.size]?=some (.cells #[.U e,.U g,.U x,.I t,.S p n c,.S q m d] 41))/\Hid (Bw w wr)) (λ_ iv _=>m-(intOf iv).toNat)
 exact⟨0,_,_,_,gr _,rfl,rfl,af,(by show _=_;simp only[rj,Eb,vO,BI];exact ae bT9),(by show Own _ _ _ _;simp only[rj,Eb,vO,BI];exact aS0.1),aS0.2.2.1,aS0.2.1⟩;{
 obtain⟨k,po,co,L,hk,rfl,rfl,hLk,eL,Or,Kr,Br⟩:=hrel;by_cases bf:k<m;{
 have bL:=aU k m;have dT:k<ns.length:=ae em▸bf
 let⟨nd,hy⟩:=lE dT
 have hi:=HS.d nd (aT hy);have hlen:=(My HS nd (aT hy)).1;obtain⟨b,o,rfl,PP,PV,PH,PU,ZP⟩:∃b o,q=some (Ad b o)/\∃P V H U,rG w b (o+k*8) nd P V H U:=by
  let⟨p',c',ev,hd⟩:=(ae HR _ aA).2
  obtain⟨rfl,-,-⟩:=ir ev;rcases hd with h0|⟨b,o,h1,h2⟩;{rw[h0]at dT;simp at dT};{exact⟨b,o,h1,h2 k _ hy⟩}
 let⟨P,eP⟩:=aL nd.path
 let⟨V,eV⟩:=aL nd.value
 let⟨H,eH⟩:=aL nd.holders
 obtain⟨pA,cA,nA,rfl,eA⟩:=ZP.r0.gF;obtain⟨pB,cB,nB,rfl,eB⟩:=ZP.r1.gF;obtain⟨pD,cD,nD,rfl,eD⟩:=ZP.r4.gF;obtain⟨pU,cU,nU,rfl,-⟩:=ZP.r7.gF;obtain⟨tv,jt,ku,Jw,Ou,DC,yF,hc7,-⟩:=ZP.below Br;obtain⟨-,-,-,-,-,-,-,-,q0,q1,q4,-,-⟩:=ZP;rw[eP]at q0;rw[eV]at q1;rw[eH]at q4;have QQ:=ag λ(w':World)(hb:Bw w w')=>ai (q0.below hb) (ai (q1.below hb) (q4.below hb));obtain⟨⟨j1,j2,j3⟩,j4,j5,j6,j7,j8⟩:=hi;rw[ae eA]at j1;rw[ae eB]at j2;rw[ae eD]at j3;have J8:=ag j8;obtain⟨ow,eow⟩:∃v:Nat,nd.owner=(v:Int):=⟨nd.owner.toNat,af⟩;obtain⟨ep,eep⟩:∃v:Nat,nd.aE=(v:Int):=⟨nd.aE.toNat,af⟩;obtain⟨ge,ege⟩:∃v:Nat,nd.gen=(v:Int):=⟨nd.gen.toNat,af⟩;obtain⟨mo,emo⟩:∃v:Int,nd.mode=v:=⟨_,rfl⟩;rw[eow]at ku j5;rw[eep]at DC j6;rw[ege]at yF j7;rw[emo]at Jw j4;rw[eP]at eA;rw[eV]at eB;rw[eH]at eD J8;have EB:Hid (rZ nd=((((((tx P++tx V)++vi ow)++[mo])++vi nD)++cat (H.map qB))++vi ep)++vi ge):=by show _=_;rw[bf1,eow,eep,ege,emo,eP,eV,eH,qB,qB,qB,ae eD];rfl
 have HY:=ag hy;have wmo:IntKind.u8.wrap mo=mo:=by rw[zJ];omega
 have wh:IntKind.u64.wrap (nD:Int)=(nD:Int):=by rw[mK];omega
 have wk:IntKind.i64.wrap ((k:Int)+1)=((k+1:Nat):Int):=by rw[kU _ af];omega
 obtain⟨T0,t0⟩:∃M,Hid ((tx P).length=M):=⟨_,bD⟩;obtain⟨T1,t1⟩:∃M,Hid ((tx V).length=M):=⟨_,bD⟩;have bT0:T0<=146:=by have:=(uy P).2;rw[ae t0,ae eA]at this;omega
 have bT1:T1<=51:=by have:=(uy V).2;rw[ae t1,ae eB]at this;omega
 obtain⟨G0,g0⟩:∃M,Hid ((vi ow).length=M):=⟨_,bD⟩;have hG0:G0<=10:=by have:=(fg ow).2;rw[ae g0]at this;exact this
 obtain⟨G1,g1⟩:∃M,Hid ((vi nD).length=M):=⟨_,bD⟩;have hG1:G1<=10:=by have:=(fg nD).2;rw[ae g1]at this;exact this
 obtain⟨G2,g2⟩:∃M,Hid ((vi ep).length=M):=⟨_,bD⟩;have hG2:G2<=10:=by have:=(fg ep).2;rw[ae g2]at this;exact this
 obtain⟨G3,g3⟩:∃M,Hid ((vi ge).length=M):=⟨_,bD⟩;have hG3:G3<=10:=by have:=(fg ge).2;rw[ae g3]at this;exact this
 obtain⟨C,hC⟩:∃A,Hid (A=A5++cat ((ns.take k).map rZ)):=⟨_,bD⟩;rw[<-ae hC]at eL Or;obtain⟨C1,hC1⟩:∃l,Hid (l=C++tx P):=⟨_,bD⟩;obtain⟨C2,hC2⟩:∃l,Hid (l=C1++tx V):=⟨_,bD⟩;obtain⟨C3,hC3⟩:∃l,Hid (l=C2++vi ow):=⟨_,bD⟩;obtain⟨C4,hC4⟩:∃l,Hid (l=C3++[mo]):=⟨_,bD⟩;obtain⟨C5,hC5⟩:∃l,Hid (l=C4++vi nD):=⟨_,bD⟩;obtain⟨C6,hC6⟩:∃l,Hid (l=C5++cat (H.map qB)):=⟨_,bD⟩;obtain⟨C7,hC7⟩:∃l,Hid (l=C6++vi ep):=⟨_,bD⟩;obtain⟨C8,hC8⟩:∃l,Hid (l=C7++vi ge):=⟨_,bD⟩;have EC:Hid (A5++cat ((ns.take (k+1)).map rZ)=C8):=by show _=_;rw[rC rZ (ae HY),ae EB,ae hC8,ae hC7,ae hC6,ae hC5,ae hC4,ae hC3,ae hC2,ae hC1,ae hC];simp only[sX]
 have Qr:=ag (show Bn w _ _ w.heap.size _ _ _ _ _ from⟨Or,Br,Kr,Kr⟩)
 let⟨i0,i1,i2,i3,i4,i5⟩:=jD.dO Kr
 go_wp2_with fail
 let⟨X,hX⟩:=aB (wr.alloc (.cells #[.S pA nA cA,.S pB nB cB,.U ow,.I mo,.S pD nD cD,.U ep,.U ge,.S pU nU cU] 133))
 have II:=dX hX
 let⟨nb,hnb⟩:=aB wr.heap.size
 have NX:Hid (X.heap[nb]?=some (.cells #[.S pA nA cA,.S pB nB cB,.U ow,.I mo,.S pD nD cD,.U ep,.U ge,.S pU nU cU] 133)):=by rw[hX,hnb];exact XI
 have OX:=ag (Own.below Or II);have BX:=ag (aj Br II);have KX:=ag (sw Kr II);rw[<-hX,<-hnb];clear hX II Or Br Kr hnb;have QX:=ag (show Bn w _ _ nb _ _ _ _ _ from⟨OX,BX,KX,NX⟩);refine(ta eA (ae QQ _ BX).1 af t0).mono ?_;rintro z9 y12⟨dI8,ef8,rfl,cs4,bM1⟩;have cT7:=ag (QX.Tu bM1);have cS5:=ag cs4.rd;go_wp2_with(at_builtin;refine fG rfl rfl cT7 hC1 t0 eL rfl rfl cS5 af ?_);intro de6 ds4 y13 eq5 aR9 bT8 dt8
 let⟨i0,i1,i2,i3,i4,i5⟩:=jD.dO aR9.2.2.1
 let⟨a0,a1,a2,a3,a4,a5,a6,a7⟩:=Of.dO aR9.2.2.2
 go_wp2_with fail;refine(ta eB (ae QQ _ aR9.2.1).2.1 af t1).mono ?_;rintro z9 y14⟨dI7,ef7,rfl,cs3,bM0⟩;have cT6:=ag (aR9.Tu bM0);have cS3:=ag cs3.rd;go_wp2_with(at_builtin;refine fG rfl rfl cT6 hC2 t1 bT8 rfl rfl cS3 af ?_);intro de5 ds3 y15 eq4 bq6 bT7 dt7
 let⟨i0,i1,i2,i3,i4,i5⟩:=jD.dO bq6.2.2.1
 let⟨a0,a1,a2,a3,a4,a5,a6,a7⟩:=Of.dO bq6.2.2.2
 go_wp2_with fail;refine(pZ af g0).mono ?_;rintro z9 y16⟨dI6,ef6,rfl,cs2,bL9⟩;have cT5:=ag (bq6.Tu bL9);have cS2:=ag cs2.rd;go_wp2_with(at_builtin;refine fG rfl rfl cT5 hC3 g0 bT7 rfl rfl cS2 af ?_);intro de4 ds2 y17 eq3 bq5 bT6 dt6
 let⟨i0,i1,i2,i3,i4,i5⟩:=jD.dO bq5.2.2.1
 let⟨a0,a1,a2,a3,a4,a5,a6,a7⟩:=Of.dO bq5.2.2.2
 go_wp2_with(at_builtin;refine TC rfl rfl bq5 hC4 bT6 rfl rfl af ?_);intro de3 dr9 y18 eq0 bq4 bT5 dt5
 let⟨i0,i1,i2,i3,i4,i5⟩:=jD.dO bq4.2.2.1
 let⟨a0,a1,a2,a3,a4,a5,a6,a7⟩:=Of.dO bq4.2.2.2
 go_wp2_with fail;refine(pZ af g1).mono ?_;rintro z9 y19⟨dI5,ef5,rfl,cs1,bL8⟩;have cT4:=ag (bq4.Tu bL8);have cS1:=ag cs1.rd;go_wp2_with(at_builtin;refine fG rfl rfl cT4 hC5 g1 bT5 rfl rfl cS1 af ?_);intro de2 dr8 y20 cU1 Zy bT4 dt4
 let⟨i0,i1,i2,i3,i4,i5⟩:=jD.dO Zy.2.2.1
 let⟨a0,a1,a2,a3,a4,a5,a6,a7⟩:=Of.dO Zy.2.2.2
 go_wp2
 go_loopw[3,7](λov kv wr=>∃(j:Nat)(po:OA)(co L:Nat),j<=nD/\ov=.S po L co/\kv=.I j/\L<=cU1+10*j/\Hid ((C5++cat ((H.take j).map qB)).length=L)/\Hid (Own w.heap.size wr (.S po L co) (C5++cat ((H.take j).map qB)))/\Hid (wr.heap[w.heap.size]?=some (.cells #[.U e,.U g,.U x,.I t,.S p n c,.S (some (Ad b o)) m d] 41))/\Hid (wr.heap[nb]?=some (.cells #[.S pA nA cA,.S pB nB cB,.U ow,.I mo,.S pD nD cD,.U ep,.U ge,.S pU nU cU] 133))/\Hid (Bw w wr)) (λ_ kv _=>nD-(intOf kv).toNat)
 exact⟨0,_,_,_,gr _,rfl,rfl,af,(by show _=_;simp only[rj,Eb,vO,BI];exact ae bT4),(by show Own _ _ _ _;simp only[rj,Eb,vO,BI];exact Zy.1),Zy.2.2.1,Zy.2.2.2,Zy.2.1⟩;{
 obtain⟨j,pr,cr,Lr,hj,rfl,rfl,hLj,eLr,Or,Kr,Nr,Br⟩:=hrel;by_cases hlj:j<nD;{
 have cA2:=aU j nD;have Al:j<H.length:=ae eD▸hlj
 let⟨iv,hy⟩:=lE Al
 have hi:=ae J8 iv (aT hy);obtain⟨v,rfl⟩:∃v:Nat,iv=(v:Int):=⟨iv.toNat,af⟩;obtain⟨b',o',rfl,hc⟩:∃b o,pD=some (Ad b o)/\wr.cell? (Ad b (o+j))=some (.U v):=by
  let⟨p',c',ev,hd⟩:=(ae QQ _ Br).2.2
  obtain⟨rfl,-,-⟩:=ir ev;rcases hd with h0|⟨b,o,h1,h2⟩;{rw[h0]at Al;simp at Al};{refine⟨b,o,h1,?_⟩;have:=h2 j Al;rw[gj,hy,sa]at this;exact this}
 obtain⟨M,eM⟩:∃M,Hid ((vi v).length=M):=⟨_,bD⟩;have hM:M<=10:=by have:=(fg v).2;rw[ae eM]at this;exact this
 obtain⟨A,hA⟩:∃A,Hid (A=C5++cat ((H.take j).map qB)):=⟨_,bD⟩;rw[<-ae hA]at eLr Or;obtain⟨AA,hAA⟩:∃l,Hid (l=A++vi v):=⟨_,bD⟩;have EA:Hid (C5++cat ((H.take (j+1)).map qB)=AA):=by show _=_;rw[ae hAA,ae hA,rC qB hy,sX];rfl
 have wj:IntKind.i64.wrap ((j:Int)+1)=((j+1:Nat):Int):=by rw[kU _ af];omega
 have Qr:=ag (show Bn w _ _ nb _ _ _ _ _ from⟨Or,Br,Kr,Nr⟩)
 let⟨i0,i1,i2,i3,i4,i5⟩:=jD.dO Kr
 let⟨a0,a1,a2,a3,a4,a5,a6,a7⟩:=Of.dO Nr
 go_wp2_with fail;refine(pZ af eM).mono ?_;rintro z9 y21⟨dI4,ef4,rfl,cs0,bL7⟩;have cT3:=ag (Qr.Tu bL7);have cS0:=ag cs0.rd;go_wp2_with(at_builtin;refine fG rfl rfl cT3 hAA eM eLr rfl rfl cS0 af ?_);intro de1 dr7 y22 ep9 Zx bT3 dt3
 let⟨i0,i1,i2,i3,i4,i5⟩:=jD.dO Zx.2.2.1
 let⟨a0,a1,a2,a3,a4,a5,a6,a7⟩:=Of.dO Zx.2.2.2
 go_wp2;go_roundw;exact⟨j+1,_,_,_,af,rfl,by go_num,af,(ae EA▸bT3),(ae EA▸Zx.1),Zx.2.2.1,Zx.2.2.2,Zx.2.1⟩;exact cg};{
 have cA2:=dB j nD;have ejn:nD=j:=af;rw[lD (by rw[ae eD];omega)]at eLr Or;rw[<-ae hC6]at eLr Or;have Qr:=ag (show Bn w _ _ nb _ _ _ _ _ from⟨Or,Br,Kr,Nr⟩)
 let⟨i0,i1,i2,i3,i4,i5⟩:=jD.dO Kr
 let⟨a0,a1,a2,a3,a4,a5,a6,a7⟩:=Of.dO Nr
 go_wp2_with fail;refine(pZ af g2).mono ?_;rintro z9 y23⟨dI3,ef3,rfl,cr9,bL6⟩;have cT2:=ag (Qr.Tu bL6);have cR9:=ag cr9.rd;go_wp2_with(at_builtin;refine fG rfl rfl cT2 hC7 g2 eLr rfl rfl cR9 af ?_);intro de0 dr6 y24 ep8 bq3 bT2 dt2
 let⟨i0,i1,i2,i3,i4,i5⟩:=jD.dO bq3.2.2.1
 let⟨a0,a1,a2,a3,a4,a5,a6,a7⟩:=Of.dO bq3.2.2.2
 go_wp2_with fail;refine(pZ af g3).mono ?_;rintro z9 y25⟨dI2,ef2,rfl,cr8,bL5⟩;have cT1:=ag (bq3.Tu bL5);have cR8:=ag cr8.rd;go_wp2_with(at_builtin;refine fG rfl rfl cT1 hC8 g3 bT2 rfl rfl cR8 af ?_);intro dd9 dr5 y26 ep7 az6 bS9 dt1
 let⟨i0,i1,i2,i3,i4,i5⟩:=jD.dO az6.2.2.1
 let⟨a0,a1,a2,a3,a4,a5,a6,a7⟩:=Of.dO az6.2.2.2
 go_wp2;go_roundw;exact⟨k+1,_,_,_,af,rfl,by go_num,af,(ae EC▸bS9),(ae EC▸az6.1),az6.2.2.1,az6.2.1⟩
 case measure=>simp[intOf];omega}}}
 {
 have bL:=dB k m;have ekm:m=k:=af;subst ekm;rw[lD (ae em▸iD _),<-ae EN]at eL Or;have eLN:L=N:=eL.symm.trans eN;subst eLN;have Qr:=ag (show Bn w _ _ w.heap.size _ _ _ _ _ from⟨Or,Br,Kr,Kr⟩)
 let⟨i0,i1,i2,i3,i4,i5⟩:=jD.dO Kr
 go_wp2;go_ret;exact⟨po,co,rfl,Or,Br⟩}}}}
def Ip:Option ((Int×Int×Int)×List aQ×List aD)->iF
 |none=>nj
 |some r=>⟨r.1.1,r.1.2.1,r.1.2.2,0,r.2.1,r.2.2⟩
def Iq:Option ((Int×Int×Int)×List aQ×List aD)->Int
 |none=>13
 |some _=>0
variable {x a:Int}
def uI(en:Le l n){w:World}(h:Rd w (.S p n c) l)(hb:Hid (aN l))(hl:Mg n)(hs:Hid (jV n l om))(ea:Hid (nJ n om=a))(e:Hid (oV om=(x,EO)))(ea':Hid (nJ n EO=a')):Cp 137 #[.S p n c,.I a] w λe w'=>e=.returned (.tuple #[.U x,.I a'])/\w'=w:=by
 have e1:=ae ea;have e2:=ae ea';subst e1 e2;exact BG en h hb hl hs e
def bE2(en:Le l n){w:World}(h:Rd w (.S p n c) l)(hb:Hid (aN l))(hl:Mg n)(hs:Hid (jV n l om))(ea:Hid (nJ n om=a))(e:Hid (oB om=(x,EO)))(ea':Hid (nJ n EO=a')):Cp 139 #[.S p n c,.I a] w λe w'=>e=.returned (.tuple #[.I x,.I a'])/\w'=w:=by
 have e1:=ae ea;have e2:=ae ea';subst e1 e2;exact pK en h hb hl hs e
def aT6(en:Le l n){w:World}(h:Rd w (.S p n c) l)(hb:Hid (aN l))(hl:Mg n)(xv:n<=c)(hs:Hid (jV n l om))(ea:Hid (nJ n om=a)){x:LI}(e:Hid (oT om=(x,EO)))(ea':Hid (nJ n EO=a'))(eN:Le x N):Cp 138 #[.S p n c,.I a] w λe w'=>∃p' c',e=.returned (.tuple #[.S p' N c',.I a'])/\Own w.heap.size w' (.S p' N c') x/\Bw w w':=by
 have e1:=ae ea;have e2:=ae ea';subst e1 e2;exact pI en h hb hl xv hs e eN
theorem Fl(hs:jV n l om):(nJ n om<0↔om=none)/\nJ n om<=n/\-1<=nJ n om:=by
 cases om with
 |none=>simp[nJ]
 |some m=>
  have:=(hs m rfl).1;simp only[nJ];refine⟨⟨λh=>af,λh=>by cases h⟩,af,af⟩
def NR{w u:World}(h:Bw w u){o:Obj}:Bw w (u.alloc o):=h.alloc h.size o
def OwnT.ag0{α:Type}{el:World->α->List Value->List Lf->Prop}{sb:Nat}{w:World}{xs:List α}(h:OwnT el ty sz B w v xs Ls)(db:∀w w' x c l,el w x c l->(∀a∈l,w'.heap[a.b]?=w.heap[a.b]?)->el w' x c l)(hs:sb<B)(j:Nat)(u:Value):OwnT el ty sz B (w.setCell (Ad sb j) u) v xs Ls:=
 h.keep (db _ _) al (λb hb=>ga _ _ _ _ (by have:=(h.lt.1 b hb).1;simp;omega)) (λa ha=>ga _ _ _ _ (by have:=(h.lt.2 a ha).1;simp;omega))
def jy.id(w:World)(i:Int):jy w (Ti i) [.U i,.I 0,aq] []:=⟨none,0,rfl,⟨none,0,rfl,.inl rfl⟩,⟨none,0,[],rfl,rfl,rfl,.inl rfl⟩⟩
variable {o:Option LI}
theorem JT(h:fI k o=none):∀j,k<=j->fI j o=none:=by
 intro j hj
 induction j with
 |zero=>rw[show k=0 by omega]at h;exact h
 |succ j ih=>
  by_cases e:k=j+1;{rw[<-e];exact h};{rw[fI,ih af];rfl}
def Pr(h:fI k o=some (ns,om))(h2:px om=some (nd,EO)):fI (k+1) o=some (ns++[nd],EO):=by
 rw[fI,h];simp only[zE,h2,Jh]
def CL(h:fI k o=some (ns,om))(h2:px om=none):fI (k+1) o=none:=by
 rw[fI,h];simp only[zE,h2,Option.map_none]
def js.snoc{w:World}{d:Int}(hk:l.length=k)(h:w.ownsRow B 27 1 v (k+1) (l.map (Value.int .u64)++[.U d])):js B w v (l++[d]):=by
 unfold js;rw[gU,l8,hk];exact h
def PU.nil(w:World)(M N:Nat):PU w M N aq [] []:=⟨⟨none,0,rfl,.inl rfl⟩,⟨none,0,[],rfl,rfl,rfl,.inl rfl⟩,jE.nil _ _,λa ha=>by simp at ha⟩
def sF.keep{w w':World}(h:sF w R m n sh)(hk:∀b,b<=R->w'.heap[b]?=w.heap[b]?):sF w' R m n sh:=by
 obtain⟨h1,h2,p,c,⟨h3,h4⟩,h5,h6⟩:=h;have e:=aF (hk R ay);refine⟨h1,λo=>(tM (hk R ay)).trans (h2 o),p,c,⟨(e 0).trans h3,(e 1).trans h4⟩,?_,h6⟩;rcases h5 with h5|⟨b,o,hb,hp,h5⟩;{exact .inl h5};{exact .inr ⟨b,o,hb,hp,λi hi=>(aF (hk b af) _).trans (h5 i hi)⟩}
def sF.below{w w':World}(h:sF w R m n sh)(hb:Below B w w')(hR:R<B):sF w' R m n sh:=h.keep λb hbR=>hb.block b (by omega)
def Kept.VT{w w':World}(h:Kept [blk R] w w')(hb:b<w.heap.size)(bS:b≠R):w'.heap[b]?=w.heap[b]?:=h.block b hb λv hv e=>by
 simp only[nE]at hv;subst hv;simp[Value.ownBlock]at e;exact bS e.symm
def js.di{w w':World}(h:js B w v l)(hk:Kept [blk R] w w')(hR:R<B):js B w' v l:=by
 refine⟨h.1,?_⟩;rcases h.2 with hn|⟨g,cap,cur,rfl,hb,hg,rest⟩;{exact .inl hn};{exact .inr ⟨g,cap,cur,rfl,hb,(hk.VT (Jg.1 hg).1 af).trans hg,rest⟩}
def OwnT.di{α:Type}{el:World->α->List Value->List Lf->Prop}{w w':World}{xs:List α}(h:OwnT el ty sz B w v xs Ls)(db:∀w w' x c l,el w x c l->(∀a∈l,w'.heap[a.b]?=w.heap[a.b]?)->el w' x c l)(hk:Kept [blk R] w w')(hR:R<B):OwnT el ty sz B w' v xs Ls:=
 h.keep (db _ _) hk.size (λb hb=>hk.VT (h.lt.1 b hb).2 (aI (h.lt.1 b hb).1)) (λa ha=>hk.VT (h.lt.2 a ha).2 (aI (h.lt.2 a ha).1))
def OwnT.cQ3{α:Type}{el:World->α->List Value->List Lf->Prop}{xs:List α}{x:α}{c:List Value}{l:List Lf}(h:OwnT el ty sz B V3 v xs Ls)(db:∀w w' x c l,el w x c l->(∀a∈l,w'.heap[a.b]?=w.heap[a.b]?)->el w' x c l)(hx:el V3 x c l)(hc:c.length=sz)(hA:jE M V3 l)(hB:B<=M)(hM:∀a∈Ls.flatten,a.b<M)(hvM:∀b,v.ownBlock=some b->b<M):∃row,V3.ownsRow B ty sz v xs.length row/\∀v' w9,w9.ownsRow B ty sz v' (xs.length+1) (row++c)->V3.grownBy w9 v.ownBlock->(∀g,v'.ownBlock=some g->v.ownBlock=some g\/V3.heap.size<=g)→
   OwnT el ty sz B w9 v' (xs++[x]) (Ls++[l])/\∃p c',v'=.S p (xs.length+1) c':=by
 obtain⟨cs,g1,g2,g3,g4,g5,g6,g7⟩:=h;refine⟨cs.flatten,g4,λv' w9 fo hg qz=>?_⟩;have sn:=OwnT.snoc g1 g2 g3 g5 g6 g7 db hx hc hA hB hM hvM fo hg qz;refine⟨sn,?_⟩;obtain⟨p,c',e,-⟩:=sn.read;rw[gU]at e;exact⟨p,c',e⟩
variable {xs:LI}
def PB.di{w w':World}(h:PB w M N v xs A)(hk:Kept [blk R] w w')(hR:R<M):PB w' M N v xs A:=
 have k:∀a∈A,w'.heap[a.b]?=w.heap[a.b]?:=λa ha=>hk.VT (h.ap.tf.lt ha) (aI (h.ap.lo a ha))
 ⟨h.rd.dw h.lv k,h.cap,h.lv,h.ap.keep k,h.hi⟩
def PU.di{w w':World}(h:PU w M N v xs A)(hk:Kept [blk R] w w')(hR:R<M):PU w' M N v xs A:=
 have k:∀a∈A,w'.heap[a.b]?=w.heap[a.b]?:=λa ha=>hk.VT (h.ap.tf.lt ha) (aI (h.ap.lo a ha))
 ⟨h.rd.dw h.lv k,h.lv,h.ap.keep k,h.hi⟩
def ar.di{w w':World}(h:ar w b vs)(hk:Kept [blk R] w w')(hb:b<w.heap.size)(bS:b≠R):ar w' b vs:=
 ⟨λi v hi=>(aF (hk.VT hb bS) _).trans (h.1 i v hi),λo=>(tM (hk.VT hb bS)).trans (h.2 o)⟩
def Kept.au1{w w1 w2:World}(h:Kept [blk R] w w1)(hg:w1.grownBy w2 row)(hr:∀k,row=some k->w.heap.size<=k):Kept [blk R] w w2:=
 ⟨hg.os.trans h.os,hg.tape.trans h.tape,hg.output.trans h.output,fu h.size hg.size,λk hk hv=>(hg.block k (iq hk h.size) (λe=>aI (hr k e.symm))).trans (h.block k hk hv)⟩
def Kept.tS{w w1:World}(h:Kept [blk R] w w1){a:Addr}(ha:w.heap.size<=a.block)(v:Value):Kept [blk R] w (w1.setCell a v):=
 h.au1 (aH w1 a v) λk e=>by cases e;exact ha
def PF{w:World}(h:sF w R m n sh)(hR:R<w.heap.size)(hb:aN m)(hl:Mg n)(e:Hid (jM (m,sh)=(x,m',sh'))):Calls prog 207 #[.pointer (some (Ad R 0))] w λe w'=>e=.returned (.agg #[.U x,.I 0,aq])/\sF w' R m' m'.length sh'/\Kept [blk R] w w':=by
 let⟨W,hW⟩:=aB (w.alloc (.cells #[.U 0,.I 0,aq] 132))
 have bW:=dX hW;have hC:ar W w.heap.size [.U 0,.I 0,aq]:=by rw[hW];exact ar.alloc w #[.U 0,.I 0,aq] _
 have zW:W.heap.size=w.heap.size+1:=by rw[hW];simp
 go_in
 go_wp2_with fail;rw[<-hW];clear hW;refine(gi (h.below bW hR) hb hl e).mono ?_;rintro r w1⟨rfl,vd,mT⟩;have C1:=hC.di mT af af;have KK:=ag ((Kept.dR (vs:=[blk R]) bW).trans mT);have Ob:=ag vd;have r0:=C1.1 0 _ rfl;have r1:=C1.1 1 _ rfl;have r2:=C1.1 2 _ rfl;have rf:=C1.2;clear hC mT vd C1 h;go_wp2;refine dJ (v:=.agg #[.U x,.I 0,aq]) (by simp[results,results207,go_sem,r0,r1,r2]) rfl ⟨rfl,?_,?_⟩;{exact Ob.keep λb hb=>by iterate 3 rw[ga _ _ _ _ bq]}
 {exact((KK.tS al _).tS al _).tS al _}
variable {X:Nat}
def cu2{α:Type}{f:Rs->α×Rs}{s:Rs}{r:List α×Rs}{t:Rs}(e:Hid (lF f s=r))(e1:Hid (jM s=((X:Int),t))):Hid (Ky f X [] t=r):=by
  have:=ae e;rw[lF,ae e1]at this;exact this
def bf8{α:Type}{f:Rs->α×Rs}{acc:List α}{s:Rs}{r:List α×Rs}(e:Hid (Ky f k acc s=r)):∃d m3 s3,Hid (f s=(d,m3,s3)):=⟨_,_,_,(by show _=_;rfl)⟩
variable {i:Nat}
def bF6{α:Type}{f:Rs->α×Rs}{acc xs:List α}{s:Rs}{d:α}(e:Hid (Ky f (X-i) acc s=(xs,m',sh')))(e4:Hid (f s=(d,m3,s3)))(h:i<X):(s3=true->xs=[]/\m'=m3/\sh'=true)/\(s3=false->Hid (Ky f (X-(i+1)) (acc++[d]) (m3,false)=(xs,m',sh'))):=by
  have:=ae e;rw[show X-i=X-(i+1)+1 by omega,Ky,ae e4]at this;refine⟨λhs=>?_,λhs=>?_⟩;{rw[bO hs,hs]at this;simp only[gy]at this;exact⟨this.1.symm,this.2.1.symm,this.2.2.symm⟩};{rw[bH (by rw[hs];simp),hs]at this;exact this}
def bF5{α:Type}{f:Rs->α×Rs}{acc xs:List α}{m2:LI}{s2:Bool}(e:Hid (Ky f (X-i) acc (m2,s2)=(xs,m',sh')))(h:¬i<X):xs=acc/\m'=m2/\sh'=s2:=by
  have:=ae e;rw[show X-i=0 by omega,Ky]at this;simp only[gy]at this;exact⟨this.1.symm,this.2.1.symm,this.2.2.symm⟩
def LfI{α:Type}(f:Rs->α×Rs)(OW:World->Value->List α->Prop)(X:Nat)(xs:List α)(m':LI)(sh':Bool)(R:Nat)(w:World)(lv iv:Value)(wr:World):Prop:=∃(i:Nat)(acc:List α)(k:Nat)(m2:LI)(s2:Bool)(n2:Nat)(p:OA)(c:Nat),i<=X/\lv=.S p k c/\iv=.U i/\k+n2<=1048576/\Le acc k/\Le m2 n2/\Hid (Ky f (X-i) acc (m2,s2)=(xs,m',sh'))/\Hid (aN m2)/\Hid (sF wr R m2 n2 s2)/\Hid (OW wr (.S p k c) acc)/\Hid (Kept [blk R] w wr)
def bC9{s:Rs}{d:aQ}(e:Hid (sSe s=(d,m3,s3))):∃y,Hid (jM s=(y,m3,s3))/\Hid (d=Ti y):=by
  have:=ae e;rw[sSe]at this;simp only[gy]at this;exact⟨_,Prod.ext rfl this.2,this.1.symm⟩
theorem lfW(h':q:=by
    let⟨iu,hiu,uz0,uz1,uz2⟩:=fD Tryz.infoU64
    let⟨is,his,sz0,sz1,sz2⟩:=fD Tryz.infoSes
    let⟨iN,hiN,nz0,nz1,nz2⟩:=fD Tryz.infoNod
    have hmn:m.length=n:=h.1;obtain⟨⟨x,m1,s1⟩,e1⟩:∃y,Hid (jM (m,sh)=y):=⟨_,bD⟩;have ok1:=iQ (m,sh) (ae hb) (hmn▸hl);rw[ae e1]at ok1;obtain⟨hx,aG,Tm,-⟩:=ok1;dsimp only at Tm;obtain⟨X,rfl⟩:∃v:Nat,x=(v:Int):=⟨x.toNat,aI hx.1⟩;have hX:(X:Int)<2^64:=hx.2;have e2:=cu2 e e1;have qW:=ag aG;clear hx aG;show Calls _ _ _ _ _
    go_in
    go_wp2_with fail;refine(gi h hb hl e1).mono ?_;rintro r w1⟨rfl,vd,mT⟩;have Ob:=ag vd;have HK1:=ag mT;clear vd mT h;go_wp2
    first
      |(go_loopw[5,9](LfI jM (js w.heap.size) X xs m' sh' R w) (λ_ iv _=>X-(intOf iv).toNat))
      |(go_loopw[5,9](LfI sSe (λwr v l=>∃Ls,OwnT jy 132 3 w.heap.size wr v l Ls) X xs m' sh' R w) (λ_ iv _=>X-(intOf iv).toNat))
      |(go_loopw[5,9](LfI Ux (λwr v l=>∃Ls,OwnT iA 133 8 w.heap.size wr v l Ls) X xs m' sh' R w) (λ_ iv _=>X-(intOf iv).toNat))
    {exact⟨0,[],0,m1,s1,m1.length,none,0,gr _,rfl,rfl,af,bD,bD,e2,qW,Ob,by first|exact gm _ _ _ _|exact⟨[],OwnT.nil _ _ _ _ _⟩,HK1⟩};{
 clear Ob HK1 qW e2;obtain⟨i,acc,k,m2,s2,n2,p,c,hi,rfl,rfl,hkn,ek,Vw,e3,aK,nO,qy,uW⟩:=hrel;have ZM:=uW.size;by_cases bf:i<X;{
 have bL:=aU i X;have wi:IntKind.u64.wrap ((i:Int)+1)=((i+1:Nat):Int):=by rw[mK];omega
 let⟨d,m3,s3,e4⟩:=bf8 e3
 have hm2:m2.length<=1048576:=by rw[ae Vw];omega
 first
   | (have ok3:=iQ (m2,s2) aK hm2
      rw[ae e4]at ok3;obtain⟨-,br,Oo,Rp⟩:=ok3)
   | (have ok3:=Uu (m2,s2) aK hm2
      rw[ae e4]at ok3;obtain⟨-,br,Oo,Rp⟩:=ok3)
   | (have ok3:=Uw (m2,s2) aK hm2
      rw[ae e4]at ok3;obtain⟨-,br,Oo,Rp⟩:=ok3)
 clear hm2;dsimp only at Oo Rp;rw[ae Vw]at Oo Rp;have AM:=ag br;clear br
 let⟨e6t,e6f⟩:=bF6 e3 e4 bf
 have E6T:=ag e6t;have E6F:=ag e6f;clear e6t e6f
 first
   | (have T1:Hid (jM (m2,s2)=(d,m3,s3)):=e4
      go_wp2_with fail;refine(gi nO aK af e4).mono ?_;rintro r w3⟨rfl,KJ,tZ⟩;have Od:=ag (uW.trans tZ);have JK:=ag KJ;have z3:=tZ.size;obtain⟨l3,f3,pr,cr,⟨g0,g1⟩,-⟩:=KJ;have O3:=ag (qy.di tZ af);clear tZ)
   | (obtain⟨y,e4n,HD⟩:=bC9 e4
      go_wp2_with fail;refine(PF nO af aK af e4n).mono ?_;rintro r w3⟨rfl,KJ,tZ⟩;have Od:=ag (uW.trans tZ);have JK:=ag KJ;have z3:=tZ.size;have hr4:sF (w3.alloc (.cells #[.U y,.I 0,aq] 132)) R m3 m3.length s3:=KJ.below (aA.alloc ay _) af;obtain⟨l3,f3,pr,cr,⟨g0,g1⟩,-⟩:=hr4
      let⟨Ls,hoT⟩:=ae qy
      have O3:=ag (hoT.di jy.keep tZ af);have HLT:=ag hoT.lt;clear hoT;clear KJ tZ)
   | (go_wp2_with fail
      refine(CN R m2 n2 s2 _ nO af aK af d m3 s3 e4).mono ?_;rintro r w3⟨pP,NP,cP,pV,NV,cV,ow,mo,pH,NH,cH,ep,ge,Ae,rfl,eln,Lk,KJ,tZ⟩;have EE:=ag (ai eln (ai km Lk));clear eln Lk;have Od:=ag (uW.trans tZ);have JK:=ag KJ;have z3:=tZ.size;have hr4:sF (w3.alloc (.cells #[.S pP NP cP,.S pV NV cV,.U ow,.I mo,.S pH NH cH,.U ep,.U ge,aq] 133)) R m3 m3.length s3:=KJ.below (aA.alloc ay _) af;obtain⟨l3,f3,pr,cr,⟨g0,g1⟩,-⟩:=hr4
      let⟨Ls,hoT⟩:=ae qy
      have O3:=ag (hoT.di iA.keep tZ af);have HLT:=ag hoT.lt;clear hoT;clear KJ tZ)
 cases s3 with
 | true=>
   clear Rp E6F;obtain⟨rfl,rfl,rfl⟩:=ae E6T rfl;have Vo:N=0:=eN.symm;subst Vo;go_wp2;go_ret
   first
     |exact⟨none,0,rfl,gm _ _ _ _,JK,Od⟩
     |exact⟨none,0,rfl,⟨[],OwnT.nil _ _ _ _ _⟩,JK.below (aA.alloc ay _) af,Od.alloc _⟩
 | false=>
   have hl5:=Rp rfl;have e6:=ae E6F rfl;clear Rp E6T E6F;obtain⟨n3,en3⟩:∃k,Le m3 k:=⟨_,bD⟩;rw[ae en3]at hl5 Oo JK l3 g0;clear l3 g0
   first
     | (obtain⟨v3,jO⟩:∃V,V=w3.alloc (.cells #[.int .u64 d] 27):=⟨_,rfl⟩
        have br:=dX jO;have DB:∀i u,([.U d]:List Value)[i]?=some u->v3.cell? (Ad w3.heap.size i)=some u:=jO▸mi;have uq:=ag DB;have z4:v3.heap.size=w3.heap.size+1:=by rw[jO];simp
        have YM:Hid (∀b,(Value.slice p k c).ownBlock=some b->w.heap.size<=b):=λb eb=>(O3.lt b eb).1;have AK:Hid (v3.ownsRow w.heap.size 27 1 (.S p k c) k (acc.map (Value.int .u64))):=by have:=O3.below br;unfold js at this;rw[ae ek]at this;exact this
        have R4:=ag (JK.below br af);have K4:=ag (Od.trans (Kept.dR br));clear DB;go_wp2_with(at_builtin;rw[<-jO];refine cR rfl 108 rfl iu 1 underlying108 hiu uz0 uz1 uz2 rfl bj (.S p k c) rfl (ae AK) (w3.heap.size) 1 1 [.U d] rfl rfl (ae uq) (λu hu=>by simp at hu;subst hu;rfl) iB af af ?_);intro v' w9 fo hg yk;have qz:∀g,v'.ownBlock=some g->(Value.slice p k c).ownBlock=some g\/v3.heap.size<=g:=λg eg=>by have:=yk g eg;rw[jO];simpa using this
        rw[<-jO]at hg;have sn:=js.snoc ek fo
        let⟨pN,cN,e9⟩:=sn.form
        rw[gU,ae ek]at e9;subst e9;have SN:Hid (js w.heap.size w9 (.S pN (k+1) cN) (acc++[d])):=sn)
     | (obtain⟨v3,jO⟩:∃V,V=(w3.alloc (.cells #[.int .u64 y,.int .i64 0,.slice none 0 0] 132)).alloc (.cells #[.int .u64 y,.int .i64 0,.slice none 0 0] 132):=⟨_,rfl⟩
        have br:Bw w3 v3:=jO▸(aA.alloc ay _).alloc al _;have DB:∀i u,([.U y,.I 0,aq]:List Value)[i]?=some u->v3.cell? (Ad (w3.heap.size+1) i)=some u:=by have e0:(w3.alloc (.cells #[.U y,.I 0,aq] 132)).heap.size=w3.heap.size+1:=al;rw[jO,<-e0];exact mi
        have uq:=ag DB;have z4:v3.heap.size=w3.heap.size+2:=by rw[jO];simp
        have elx:jy v3 d [.U y,.I 0,aq] []:=ae HD▸jy.id v3 y;have apx:jE w3.heap.size v3 []:=jE.nil _ _
        let⟨row,la,tA⟩:=O3.app jy.keep br elx rfl apx af
        have YM:Hid (∀b,(Value.slice p k c).ownBlock=some b->w.heap.size<=b):=λb eb=>(O3.lt.1 b eb).1;rw[ae ek]at la tA;have JM:=ag tA;have AK:=ag la;clear tA la;have R4:=ag (JK.below br af);have K4:=ag (Od.trans (Kept.dR br));clear DB;go_wp2_with(at_builtin;rw[<-jO];refine cR rfl 38 rfl is 3 underlying38 his sz0 sz1 sz2 rfl bj (.S p k c) rfl (ae AK) (w3.heap.size+1) 1 1 [.U y,.I 0,aq] rfl rfl (ae uq) (λu hu=>by simp at hu;rcases hu with rfl|rfl|rfl<;>rfl) iB af af ?_);intro v' w9 fo hg yk;have qz:∀g,v'.ownBlock=some g->(Value.slice p k c).ownBlock=some g\/v3.heap.size<=g:=λg eg=>by have:=yk g eg;rw[jO];simpa using this
        rw[<-jO]at hg;obtain⟨sn,pN,cN,rfl⟩:=ae JM v' w9 fo hg qz;have SN:Hid (∃Ls,OwnT jy 132 3 w.heap.size w9 ((.S pN (k+1) cN)) (acc++[d]) Ls):=⟨_,sn⟩)
     | (obtain⟨v3,jO⟩:∃V,V=(w3.alloc (.cells #[.slice pP NP cP,.slice pV NV cV,.int .u64 ow,.int .i64 mo,.slice pH NH cH,.int .u64 ep,.int .u64 ge,.slice none 0 0] 133)).alloc (.cells #[.slice pP NP cP,.slice pV NV cV,.int .u64 ow,.int .i64 mo,.slice pH NH cH,.int .u64 ep,.int .u64 ge,.slice none 0 0] 133):=⟨_,rfl⟩
        have br:Bw w3 v3:=jO▸(aA.alloc ay _).alloc al _;have DB:∀i u,([.S pP NP cP,.S pV NV cV,.U ow,.I mo,.S pH NH cH,.U ep,.U ge,aq]:List Value)[i]?=some u->v3.cell? (Ad (w3.heap.size+1) i)=some u:=by have e0:(w3.alloc (.cells #[.S pP NP cP,.S pV NV cV,.U ow,.I mo,.S pH NH cH,.U ep,.U ge,aq] 133)).heap.size=w3.heap.size+1:=al;rw[jO,<-e0];exact mi
        have uq:=ag DB;have z4:v3.heap.size=w3.heap.size+2:=by rw[jO];simp
        have kE:∀a∈Ae,v3.heap[a.b]?=w3.heap[a.b]?:=λa ha=>br.block _ (EE.2.2.tf.lt ha);have elx:iA v3 d [.S pP NP cP,.S pV NV cV,.U ow,.I mo,.S pH NH cH,.U ep,.U ge,aq] Ae:=iA.keep _ _ _ _ _ EE.1 kE;have apx:jE wr.heap.size v3 Ae:=EE.2.2.keep kE
        let⟨row,la,tA⟩:=(O3.below iA.keep br).cQ3 iA.keep elx rfl apx af (λa ha=>(HLT.2 a ha).2) (λb eb=>(HLT.1 b eb).2)
        have YM:Hid (∀b,(Value.slice p k c).ownBlock=some b->w.heap.size<=b):=λb eb=>(O3.lt.1 b eb).1;rw[ae ek]at la tA;have JM:=ag tA;have AK:=ag la;clear tA la;have R4:=ag (JK.below br af);have K4:=ag (Od.trans (Kept.dR br));clear DB;go_wp2_with(at_builtin;rw[<-jO];refine cR rfl 39 rfl iN 8 underlying39 hiN nz0 nz1 nz2 rfl bj (.S p k c) rfl (ae AK) (w3.heap.size+1) 1 1 [.S pP NP cP,.S pV NV cV,.U ow,.I mo,.S pH NH cH,.U ep,.U ge,aq] rfl rfl (ae uq) (λu hu=>by simp at hu;rcases hu with rfl|rfl|rfl|rfl|rfl|rfl|rfl|rfl<;>rfl) iB af af ?_);intro v' w9 fo hg yk;have qz:∀g,v'.ownBlock=some g->(Value.slice p k c).ownBlock=some g\/v3.heap.size<=g:=λg eg=>by have:=yk g eg;rw[jO];simpa using this
        rw[<-jO]at hg;obtain⟨sn,pN,cN,rfl⟩:=ae JM v' w9 fo hg qz;have SN:Hid (∃Ls,OwnT iA 133 8 w.heap.size w9 ((.S pN (k+1) cN)) (acc++[d]) Ls):=⟨_,sn⟩)
   have K9:=ag (K4.au1 hg (λb eb=>ae YM b eb));have R9:=ag (R4.keep λb hbR=>hg.block b af (λeb=>aI (ae YM b eb.symm)));have EK:Hid ((acc++[d]).length=k+1):=by show _=_;rw[gU,ae ek];rfl
   clear fo hg qz yk sn jO br g1 f3;go_wp2;go_roundw;{exact⟨i+1,acc++[d],k+1,m3,false,n3,pN,cN,af,rfl,by go_num,af,EK,en3,e6,AM,R9,SN,K9⟩};{simp[intOf];omega}};{have bL:=dB i X;have eiX:X=i:=af;obtain⟨rfl,rfl,rfl⟩:=bF5 e3 bf;have Xs:N=k:=eN.symm.trans ek;subst Xs;have R9:Hid (sF wr R m' m'.length sh'):=ae Vw▸nO;go_wp2;go_ret;exact⟨p,c,rfl,qy,R9,uW⟩}}):q:=h'
def aJ7{w:World}(h:sF w R m n sh)(hR:R<w.heap.size)(hb:Hid (aN m))(hl:Mg n)(e:Hid (lF jM (m,sh)=(xs,m',sh')))(eN:Le xs N):Cp 239 #[.pointer (some (Ad R 0)),.func (.func 205) #[.pointer (some (Ad R 0))] #[]] w λr w'=>∃p' c',r=.returned (.S p' N c')/\(js w.heap.size w' ((.S p' N c')) xs)/\sF w' R m' m'.length sh'/\Kept [blk R] w w':=lfW
variable {xs:List aQ}
def aJ8{w:World}(h:sF w R m n sh)(hR:R<w.heap.size)(hb:Hid (aN m))(hl:Mg n)(e:Hid (lF sSe (m,sh)=(xs,m',sh')))(eN:Le xs N):Cp 206 #[.pointer (some (Ad R 0)),.func (.func 207) #[.pointer (some (Ad R 0))] #[]] w λr w'=>∃p' c',r=.returned (.S p' N c')/\(∃Ls,OwnT jy 132 3 w.heap.size w' ((.S p' N c')) xs Ls)/\sF w' R m' m'.length sh'/\Kept [blk R] w w':=lfW
def Yq(R:Nat)(m:LI)(n:Nat)(sh:Bool)(w:World)(h:sF w R m n sh)(hR:R<w.heap.size)(hb:Hid (aN m))(hl:Mg n)(d:aD)(m':LI)(sh':Bool)(e:Hid (Ux (m,sh)=(d,m',sh'))):Calls prog 209 #[.pointer (some (Ad R 0))] w λr w'=>∃(pP:OA)(NP cP:Nat)(pV:OA)(NV cV:Nat)(ow mo:Int)(pH:OA)(NH cH:Nat)(ep ge:Int)(Ae:List Lf),r=.returned (.agg #[.S pP NP cP,.S pV NV cV,.U ow,.I mo,.S pH NH cH,.U ep,.U ge,aq])/\iA w' d [.S pP NP cP,.S pV NV cV,.U ow,.I mo,.S pH NH cH,.U ep,.U ge,aq] Ae/\jE w.heap.size w' Ae/\sF w' R m' m'.length sh'/\Kept [blk R] w w':=by
 have hmn:m.length=n:=h.1;obtain⟨⟨P,m1,s1⟩,E1⟩:∃y,Hid (sT m sh=y):=⟨_,bD⟩;obtain⟨⟨V,m2,s2⟩,E2⟩:∃y,Hid (sT m1 s1=y):=⟨_,bD⟩;obtain⟨⟨ow,m3,s3⟩,E3⟩:∃y,Hid (jM (m2,s2)=y):=⟨_,bD⟩;obtain⟨⟨mo,m4,s4⟩,E4⟩:∃y,Hid (sB m3 s3=y):=⟨_,bD⟩;obtain⟨⟨H,m5,s5⟩,E5⟩:∃y,Hid (lF jM (m4,s4)=y):=⟨_,bD⟩;obtain⟨⟨ep,m6,s6⟩,E6⟩:∃y,Hid (jM (m5,s5)=y):=⟨_,bD⟩;obtain⟨⟨ge,m7,s7⟩,E7⟩:∃y,Hid (jM (m6,s6)=y):=⟨_,bD⟩;have ED:Hid (d=⟨P,V,ow,mo,H,ep,ge,[]⟩/\m'=m7/\sh'=s7):=by have:=ae e;rw[Ux]at this;simp only[ae E1,ae E2,ae E3,ae E4,ae E5,ae E6,ae E7,gy]at this;exact⟨this.1.symm,this.2.1.symm,this.2.2.symm⟩
 have k1:=By (sh:=sh) hb;rw[ae E1]at k1;obtain⟨-,c1,-,d1⟩:=k1;dsimp only at c1 d1;have k2:=By (sh:=s1) c1;rw[ae E2]at k2;obtain⟨-,c2,-,d2⟩:=k2;dsimp only at c2 d2;have k3:=iQ (m2,s2) c2 (by dsimp only;omega);rw[ae E3]at k3;obtain⟨-,c3,d3,-⟩:=k3;dsimp only at c3 d3;have k4:=Bz (sh:=s3) c3;rw[ae E4]at k4;obtain⟨c4,-,-,d4⟩:=k4;dsimp only at c4 d4;have k5:=Kz iQ (s:=(m4,s4)) c4 (by dsimp only;omega);rw[ae E5]at k5;obtain⟨-,c5,d5,-⟩:=k5;dsimp only at c5 d5;have k6:=iQ (m5,s5) c5 (by dsimp only;omega);rw[ae E6]at k6;obtain⟨-,c6,d6,-⟩:=k6;dsimp only at c6 d6;have B1:=ag c1;have B2:=ag c2;have B3:=ag c3;have B4:=ag c4;have B5:=ag c5;have B6:=ag c6;have g1:m1.length<=1048576:=af;have g2:m2.length<=1048576:=af;have g3:m3.length<=1048576:=af;have g4:m4.length<=1048576:=af;have g5:m5.length<=1048576:=af;have g6:m6.length<=1048576:=af;clear c1 c2 c3 c4 c5 c6 d1 d2 d3 d4 d5 d6 hmn;obtain⟨NP,eP⟩:∃k,Le P k:=⟨_,bD⟩;obtain⟨NV,eV⟩:∃k,Le V k:=⟨_,bD⟩;obtain⟨NH,eH⟩:∃k,Le H k:=⟨_,bD⟩
 let⟨W,hW⟩:=aB (w.alloc (.cells #[aq,aq,.U 0,.I 0,aq,.U 0,.U 0,aq] 133))
 have bW:=dX hW;have C0:Hid (ar W w.heap.size [aq,aq,.U 0,.I 0,aq,.U 0,.U 0,aq]):=by show ar _ _ _;rw[hW];exact ar.alloc w #[aq,aq,.U 0,.I 0,aq,.U 0,.U 0,aq] _
 have zW:W.heap.size=w.heap.size+1:=by rw[hW];simp
 have R0:=ag (h.below bW hR);have K0:=ag (Kept.dR (vs:=[blk R]) bW)
 go_in
 go_wp2_with fail;rw[<-hW];clear hW h bW;refine(Fy (R:=R) (m:=m) (n:=n) (sh:=sh) R0 hb hl af (x:=P) (m':=m1) (sh':=s1) E1 (N:=NP) eP).mono ?_;rintro z9 y1⟨pP,cP,rfl,oP,KL,mT⟩
 let⟨lP,fP⟩:=Own.pb oP
 have FP1:=ag fP;have C1:=ag (C0.di mT af af);have K1:=ag (K0.trans mT);have R1:=ag KL;have z1:=mT.size;clear mT KL C0 K0 R0  oP fP;go_wp2_with fail;refine(Fy (R:=R) (m:=m1) (n:=m1.length) (sh:=s1) R1 B1 g1 af (x:=V) (m':=m2) (sh':=s2) E2 (N:=NV) eV).mono ?_;rintro z9 y2⟨pV,cV,rfl,oV',nO,uW⟩
 let⟨lV,fV⟩:=Own.pb oV'
 have FV2:=ag fV;have C2:=ag (C1.di uW af af);have K2:=ag (K1.trans uW);have R2:=ag nO;have z2:=uW.size;have FP2:=ag (FP1.di uW af);clear uW nO C1 K1 R1 FP1 oV' fV;go_wp2_with fail;refine(gi (R:=R) (m:=m2) (n:=m2.length) (sh:=s2) R2 B2 g2 (x:=ow) (m':=m3) (sh':=s3) E3).mono ?_;rintro z9 y3⟨rfl,KJ,tZ⟩;have C3:=ag (C2.di tZ af af);have K3:=ag (K2.trans tZ);have R3:=ag KJ;have z3:=tZ.size;have FP3:=ag (FP2.di tZ af);have FV3:=ag (FV2.di tZ af);clear tZ KJ C2 K2 R2 FP2 FV2;go_wp2_with fail;refine(Bu (R:=R) (m:=m3) (n:=m3.length) (sh:=s3) R3 B3 g3 (x:=mo) (m':=m4) (sh':=s4) E4).mono ?_;rintro z9 y4⟨rfl,hr4,hk4⟩;have C4:=ag (C3.di hk4 af af);have K4:=ag (K3.trans hk4);have R4:=ag hr4;have z4:=hk4.size;have FP4:=ag (FP3.di hk4 af);have FV4:=ag (FV3.di hk4 af);clear hk4 hr4 C3 K3 R3 FP3 FV3;go_wp2_with fail;refine(aJ7 (R:=R) (m:=m4) (n:=m4.length) (sh:=s4) R4 af B4 g4 (xs:=H) (m':=m5) (sh':=s5) E5 (N:=NH) eH).mono ?_;rintro z9 y5⟨pH,cH,rfl,oH,hr5,hk5⟩
 let⟨lH,fH⟩:=js.pu oH
 have FH5:=ag fH;have C5:=ag (C4.di hk5 af af);have K5:=ag (K4.trans hk5);have R5:=ag hr5;have z5:=hk5.size;have FP5:=ag (FP4.di hk5 af);have FV5:=ag (FV4.di hk5 af);clear hk5 hr5 C4 K4 R4 FP4 FV4 oH fH;go_wp2_with fail;refine(gi (R:=R) (m:=m5) (n:=m5.length) (sh:=s5) R5 B5 g5 (x:=ep) (m':=m6) (sh':=s6) E6).mono ?_;rintro z9 y6⟨rfl,hr6,hk6⟩;have C6:=ag (C5.di hk6 af af);have K6:=ag (K5.trans hk6);have R6:=ag hr6;have z6:=hk6.size;have FP6:=ag (FP5.di hk6 af);have FV6:=ag (FV5.di hk6 af);have FH6:=ag (FH5.di hk6 af);clear hk6 hr6 C5 K5 R5 FP5 FV5 FH5;go_wp2_with fail;refine(gi (R:=R) (m:=m6) (n:=m6.length) (sh:=s6) R6 B6 g6 (x:=ge) (m':=m7) (sh':=s7) E7).mono ?_;rintro z9 y7⟨rfl,hr7,hk7⟩;have C7:=ag (C6.di hk7 af af);have K7:=ag (K6.trans hk7);have R7:=ag hr7;have z7:=hk7.size;have FP7:=ag (FP6.di hk7 af);have FV7:=ag (FV6.di hk7 af);have FH7:=ag (FH6.di hk7 af);clear hk7 hr7 C6 K6 R6 FP6 FV6 FH6;have r0:=C7.1 0 _ rfl;have r1:=C7.1 1 _ rfl;have r2:=C7.1 2 _ rfl;have r3:=C7.1 3 _ rfl;have r4:=C7.1 4 _ rfl;have r5:=C7.1 5 _ rfl;have r6:=C7.1 6 _ rfl;have r7:=C7.1 7 _ rfl;have rf:=C7.2;go_wp2
 let⟨Z,hZ⟩:=aB ((((((((y7.setCell (Ad w.heap.size 0) (.S pP NP cP)).setCell (Ad w.heap.size 1) (.S pV NV cV)).setCell (Ad w.heap.size 2) (.U ow)).setCell (Ad w.heap.size 3) (.I mo)).setCell (Ad w.heap.size 4) (.S pH NH cH)).setCell (Ad w.heap.size 5) (.U ep)).setCell (Ad w.heap.size 6) (.U ge)).setCell (Ad w.heap.size 7) aq)
 have hkz:∀b,b≠w.heap.size->Z.heap[b]?=y7.heap[b]?:=λb hb=>by
  rw[hZ]
  iterate 8 rw[ga _ _ _ _ hb]
 let⟨ed,em,es⟩:=ae ED
 subst em es;refine dJ (v:=.agg #[.S pP NP cP,.S pV NV cV,.U ow,.I mo,.S pH NH cH,.U ep,.U ge,aq]) (by simp[results,results209,go_sem,r0,r1,r2,r3,r4,r5,r6,r7]) rfl ?_;rw[<-hZ];have k0:=FP7.yv (z0:=w.heap.size) af hkz;have k1:=FV7.yv (z0:=w.heap.size) af hkz;have k4:=FH7.yv (z0:=w.heap.size) af hkz;rw[<-ae eP]at k0;rw[<-ae eV]at k1;rw[<-ae eH]at k4
 let⟨en,apn⟩:=iA.mk4 (nd:=⟨P,V,ow,mo,H,ep,ge,[]⟩) (B:=w.heap.size) k0 k1 k4 (PU.nil Z y7.heap.size y7.heap.size) af af af af af af af af af af
 dsimp only at en;rw[ae eP,ae eV,ae eH]at en;rw[ed];refine⟨_,_,_,_,_,_,_,_,_,_,_,_,_,_,rfl,en,apn,R7.keep λb hb=>hkz b af,?_⟩;rw[hZ];exact(((((((K7.tS al _).tS al _).tS al _).tS al _).tS al _).tS al _).tS al _).tS al _
variable {xs:List aD}
def aJ9{w:World}(h:sF w R m n sh)(hR:R<w.heap.size)(hb:Hid (aN m))(hl:Mg n)(e:Hid (lF Ux (m,sh)=(xs,m',sh')))(eN:Le xs N):Calls Tryz.prog 208 #[.pointer (some (Ad R 0)),.func (.func 209) #[.pointer (some (Ad R 0))] #[]] w λr w'=>∃p' c',r=.returned (.S p' N c')/\(∃Ls,OwnT iA 133 8 w.heap.size w' ((.S p' N c')) xs Ls)/\sF w' R m' m'.length sh'/\Kept [blk R] w w':=by
 have CN:=@Yq;exact lfW
def ar.c6{w:World}(h:ar w b (v0::v1::v2::v3::v4::v5::vs)):w.cell? (Ad b 0)=some v0/\w.cell? (Ad b 1)=some v1/\w.cell? (Ad b 2)=some v2/\w.cell? (Ad b 3)=some v3/\w.cell? (Ad b 4)=some v4/\w.cell? (Ad b 5)=some v5/\∀o,w.frozen? (Ad b o)=false:=
 ⟨h.1 0 _ rfl,h.1 1 _ rfl,h.1 2 _ rfl,h.1 3 _ rfl,h.1 4 _ rfl,h.1 5 _ rfl,h.2⟩
def qn{w u:World}{a0 a1 a2 a3 a4 a5:Addr}{v0 v1 v2 v3 v4 v5:Value}(h:Bw w u)(h0:w.heap.size<=a0.block:=by simp)(h1:w.heap.size<=a1.block:=by simp)(h2:w.heap.size<=a2.block:=by simp)(h3:w.heap.size<=a3.block:=by simp)(h4:w.heap.size<=a4.block:=by simp)(h5:w.heap.size<=a5.block:=by simp):Bw w ((((((u.setCell a0 v0).setCell a1 v1).setCell a2 v2).setCell a3 v3).setCell a4 v4).setCell a5 v5):=(((((h.setCell h0 _).setCell h1 _).setCell h2 _).setCell h3 _).setCell h4 _).setCell h5 _
def Aw{w u:World}(h:Hid (dP l=none))(hb:Bw w u):az5 w.heap.size (.returned (.tuple #[dZ 0 0 0 0 aq aq,.I 13])) u (Ip (dP l)) (Iq (dP l))/\Bw w u:=by
 rw[ae h];exact⟨⟨none,0,none,0,rfl,gJ.zero _ _⟩,hb⟩
def oVs(en:Le l n)(h:Hid (jV n l om)):∃e o1 a,Hid (oV om=(e,o1))/\Hid (nJ n o1=a)/\Hid (jV n l o1):=⟨(oV om).1,(oV om).2,_,ag rfl,ag rfl,ag (gO en h)⟩
def oTs(en:Le l n)(h:Hid (jV n l om)):∃e o1 a,Hid (oT om=(e,o1))/\Hid (nJ n o1=a)/\Hid (jV n l o1):=⟨(oT om).1,(oT om).2,_,ag rfl,ag rfl,ag (Gp en h)⟩
theorem aG7(en:Le l n){w:World}(h:Rd w (.S p n c) l)(hb:Hid (aN l))(hl:Mg n)(xv:n<=c):Calls prog 73 #[.S p n c] w λr w'=>az5 w.heap.size r w' (Ip (dP l)) (Iq (dP l))/\Bw w w':=by
 have HR:=ag λ(w':World)(hb:Bw w w')=>h.below hb;clear h;have S0:=ag (jV.start en);have A0:Hid (nJ n (some l)=0):=by show _=_;rw[nJ,ae en];omega
 let⟨is,his,sz0,sz1,sz2⟩:=fD Tryz.infoSes
 let⟨io,hio,oz0,oz1,oz2⟩:=fD Tryz.infoNod
 let⟨iu,hiu,uz0,uz1,uz2⟩:=fD Tryz.infoU64
 let⟨e,o1,a1,E1,A1,S1⟩:=oVs en S0
 let⟨g,o2,a2,E2,A2,S2⟩:=oVs en S1
 let⟨x,o3,a3,E3,A3,S3⟩:=oVs en S2
 let⟨k,o4,a4,E4,A4,S4⟩:=oVs en S3
 let⟨W,hW⟩:=aB (w.alloc (.cells #[.U 0,.U 0,.U 0,.I 0,aq,aq] 41))
 have bW:=dX hW;have zW:W.heap.size=w.heap.size+1:=by rw[hW];simp
 have RW:Hid (ar W w.heap.size [.U 0,.U 0,.U 0,.I 0,aq,aq]):=by show ar _ _ _;rw[hW];exact ar.alloc w #[.U 0,.U 0,.U 0,.I 0,aq,aq] _
 go_in
 go_wp2_with fail;rw[<-hW];clear hW;refine(uI en (ae HR _ bW) hb hl S0 A0 E1 A1).mono ?_;rintro z9 w1⟨rfl,rfl⟩;go_wp2_with fail;refine(uI en (ae HR _ bW) hb hl S1 A1 E2 A2).mono ?_;rintro z9 w1⟨rfl,rfl⟩;go_wp2_with fail;refine(uI en (ae HR _ bW) hb hl S2 A2 E3 A3).mono ?_;rintro z9 w1⟨rfl,rfl⟩;go_wp2_with fail;refine(uI en (ae HR _ bW) hb hl S3 A3 E4 A4).mono ?_;rintro z9 w1⟨rfl,rfl⟩;have hk:0<=k/\k<2^64:=by have:=iG (om:=o3);rw[ae E4]at this;exact this
 have n4:=Fl S4;rw[ae A4]at n4;have N4:=ag n4.1;have m4:-1<=a4/\a4<=n:=⟨n4.2.2,n4.2.1⟩;clear n4;by_cases h4:a4<0;{
 have hn:=N4.1 h4;have hP:dP l=none:=by
  rw[dP,yQ];simp only[ae E1,ae E2,ae E3,ae E4];rw[bO (.inl hn)]
  rfl
 have HD:=ag hP;clear hP
 let⟨r0,r1,r2,r3,r4,r5,rf⟩:=RW.c6
 have BB:=bW;go_wp2;refine dJ (by simp[results,results73,go_sem,r0,r1,r2,r3,r4,r5,zW]) rfl (Aw HD (NR (qn BB)))};{
 by_cases h5:50<k;{
 skip
 have hP:dP l=none:=by
  rw[dP,yQ];simp only[ae E1,ae E2,ae E3,ae E4];rw[bO (.inr h5)]
  rfl
 have HD:=ag hP;clear hP
 let⟨r0,r1,r2,r3,r4,r5,rf⟩:=RW.c6
 have BB:=bW;go_wp2;refine dJ (by simp[results,results73,go_sem,r0,r1,r2,r3,r4,r5,zW]) rfl (Aw HD (NR (qn BB)))};{
 skip
 obtain⟨K,rfl⟩:∃K:Nat,k=(K:Int):=⟨k.toNat,af⟩;have hn4:¬o4=none:=λhh=>h4 (N4.2 hh);have HN4:=ag hn4;have wK:=e8 K;have dY3:K<=50:=af
 let⟨V,hV⟩:=aB (w1.alloc (.cells #[.U e,.U g,.U x,.I 0,aq,aq] 41))
 have Vk:=dX hV
 let⟨sb,UZ⟩:=aB (w.heap.size+1)
 have CV:Hid (ar V sb [.U e,.U g,.U x,.I 0,aq,aq]):=by show ar _ _ _;rw[hV,show sb=w1.heap.size by omega];exact ar.alloc w1 #[.U e,.U g,.U x,.I 0,aq,aq] _
 have zV:V.heap.size=sb+1:=by rw[hV];simp;omega
 have zw1:w1.heap.size=sb:=af;clear N4 hn4;go_wp2;rw[<-hV,<-UZ];have hws:w.heap.size<sb:=af;have HSB:=ag UZ;clear hV UZ zW
 go_loopw[5,13](λav iv wr=>∃(j:Nat)(a:Int)(Sv:Value)(Ls:List (List Lf)),j<=K/\av=.I a/\iv=.I j/\Hid (nJ n (rL oV j o4).2=a)/\Hid (jV n l (rL oV j o4).2)/\Hid (ar wr sb [.U e,.U g,.U x,.I 0,Sv,aq]/\OwnT jy 132 3 (sb+1) wr Sv ((rL oV j o4).1.map Ti) Ls)/\Hid (Bw w1 wr)/\sb<wr.heap.size) (λ_ iv _=>K-(intOf iv).toNat)
 exact⟨0,_,_,[],gr _,rfl,rfl,A4,S4,⟨CV,OwnT.nil _ _ _ _ _⟩,Vk,af⟩;{
 clear CV Vk zV;obtain⟨j,a,Sv,Ls,hj,rfl,rfl,Ea,Sj,jq,Br,zr⟩:=hrel;by_cases bf:j<K;{
 have bL:=aU j K;have wj:IntKind.i64.wrap ((j:Int)+1)=((j+1:Nat):Int):=by rw[kU _ af];omega
 let⟨d,o5,a5,E5,A5,S5⟩:=oVs en Sj
 have b0:=aj bW Br;go_wp2_with fail;refine(uI en (ae HR _ b0) hb hl Sj Ea E5 A5).mono ?_;rintro z9 w2⟨rfl,rfl⟩
 let⟨hC,hO⟩:=ae jq
 have hlen:((rL oV j o4).1.map Ti).length=j:=by rw[fN,sK]
 have HC:=ag hC;have HO:=ag hO;have br5:=ag hlen;clear hC hO jq hlen
 let⟨v3,jO⟩:=aB (w2.alloc (.cells #[.U d,.I 0,aq] 132))
 have br:=dX jO;have DB:∀i u,([.U d,.I 0,aq]:List Value)[i]?=some u->v3.cell? (Ad w2.heap.size i)=some u:=jO▸mi;have uq:=ag DB;have z3:v3.heap.size=w2.heap.size+1:=by rw[jO];simp
 have YM:=ag HO.lt;have C3:=ag (HC.below zr br);have B3:=ag (aj Br br)
 let⟨row,la,tA⟩:=HO.app jy.keep br (jy.id v3 d) rfl (jE.nil _ _) af
 rw[ae br5]at la tA;have JM:=ag tA;have AK:=ag la;have cl:=HC.1 4 _ rfl;clear tA DB la;go_wp2_with(at_builtin;rw[<-jO];refine cR rfl 38 rfl is 3 underlying38 his sz0 sz1 sz2 rfl bj Sv rfl (ae AK) w2.heap.size 1 1 [.U d,.I 0,aq] rfl rfl (ae uq) (λu hu=>by simp at hu;rcases hu with rfl|rfl|rfl<;>rfl) iB af af ?_);intro v' w9 fo hg yk;have qz:∀g,v'.ownBlock=some g->Sv.ownBlock=some g\/v3.heap.size<=g:=λg e=>by have:=yk g e;rw[jO];simpa using this
 rw[<-jO]at hg;obtain⟨sn,pN,cN,rfl⟩:=ae JM v' w9 fo hg qz;have C9:=C3.grown af hg (λe=>aI (YM.1 sb e.symm).1);have B9:Hid (Bw w1 w9):=B3.grown hg B3.size (λb e=>aI (YM.1 b e).1);have z9:=hg.size;have CT:=ag (C9.dH 4 al (.S pN (j+1) cN));have OT:=ag (sn.ag0 jy.keep (sb:=sb) af 4 (.S pN (j+1) cN));have BT:Hid (Bw w1 (w9.setCell (Ad sb 4) (.S pN (j+1) cN))):=B9.setCell bq _;have zT:sb<(w9.setCell (Ad sb 4) (.S pN (j+1) cN)).heap.size:=by simp;omega
 have cc:=C9.1 4 _ rfl;have cf:=C9.2;have EL:Hid ((rL oV j o4).1.map Ti++[Ti d]=(rL oV (j+1) o4).1.map Ti/\(rL oV (j+1) o4).2=o5):=by show _/\_;rw[rL,ae E5,l8];exact⟨rfl,rfl⟩
 clear fo hg qz yk sn C9 jO br cl;go_wp2;go_roundw;exact⟨j+1,a5,_,_,af,rfl,by go_num,(EL.2▸A5),(EL.2▸S5),(by rw[<-EL.1];exact⟨ae CT,ae OT⟩),BT,zT⟩;exact cg};{
 have bL:=dB j K
 skip
 have ekK:K=j:=af;subst ekK
 let⟨hC,hO⟩:=ae jq
 let⟨w3,ew3⟩:=aB wr
 subst ew3;obtain⟨pS,cS,evS,-⟩:=id hO.read;rw[fN,sK]at evS;subst evS;have C3:=ag hC;have O3:=ag hO;have b3:=aj bW Br;have R3:=ag (RW.below af Br);have HSL:Hid (((rL oV K o4).1.map Ti).length=K):=by show _=_;rw[fN,sK]
 clear hC hO jq hj bf bL
 let⟨q,o7,a7,E7,A7,S7⟩:=oVs en Sj
 go_wp2_with fail;refine(uI en (ae HR _ b3) hb hl Sj Ea E7 A7).mono ?_;rintro z9 w4⟨rfl,rfl⟩;have hq:0<=q/\q<2^64:=by have:=iG (om:=(rL oV K o4).2);rw[ae E7]at this;exact this
 have n7:=Fl S7;rw[ae A7]at n7;have N7:=ag n7.1;have m7:-1<=a7/\a7<=n:=⟨n7.2.2,n7.2.1⟩;clear n7;by_cases h7:a7<0;{
 have hn:=N7.1 h7;have hP:dP l=none:=by
  rw[dP,yQ];simp only[ae E1,ae E2,ae E3,ae E4];rw[bH (by rw[Je];exact⟨ae HN4,af⟩)];simp only[sS,ae E7];rw[bO (.inl hn)]
  rfl
 have HD:=ag hP;clear hP
 let⟨r0,r1,r2,r3,r4,r5,rf⟩:=R3.c6
 have BB:=b3;go_wp2;refine dJ (by simp[results,results73,go_sem,r0,r1,r2,r3,r4,r5]) rfl (Aw HD (qn BB))};{
 by_cases h8:200<q;{
 skip
 have hP:dP l=none:=by
  rw[dP,yQ];simp only[ae E1,ae E2,ae E3,ae E4];rw[bH (by rw[Je];exact⟨ae HN4,af⟩)];simp only[sS,ae E7];rw[bO (.inr h8)]
  rfl
 have HD:=ag hP;clear hP
 let⟨r0,r1,r2,r3,r4,r5,rf⟩:=R3.c6
 have BB:=b3;go_wp2;refine dJ (by simp[results,results73,go_sem,r0,r1,r2,r3,r4,r5]) rfl (Aw HD (qn BB))};{
 skip
 obtain⟨Q,rfl⟩:∃K:Nat,q=(K:Int):=⟨q.toNat,af⟩;have hn7:¬o7=none:=λhh=>h7 (N7.2 hh);have HN7:=ag hn7;have wQ:=e8 Q;have hQ:Q<=200:=af;have SPO:Hid (yQ l=(fI Q o7).map λr=>((e,g,x),(rL oV K o4).1.map Ti,r.1,r.2)):=by show _=_;rw[yQ];simp only[ae E1,ae E2,ae E3,ae E4];rw[bH (by rw[Je];exact⟨ae HN4,af⟩)];simp only[sS,ae E7];rw[bH (by rw[Je];exact⟨hn7,af⟩)]
 clear N7 hn7;go_wp2
 go_loopw[5,15](λav iv wr=>∃(j:Nat)(a:Int)(Nv:Value)(Ls:List (List Lf))(ns:List aD)(om:Option LI),j<=Q/\av=.I a/\iv=.I j/\Hid (fI j o7=some (ns,om))/\Hid (nJ n om=a)/\Hid (jV n l om)/\Hid (ar wr sb [.U e,.U g,.U x,.I 0,.S pS K cS,Nv]/\OwnT iA 133 8 w4.heap.size wr Nv ns Ls)/\Hid (w4.grownBy wr (some sb))) (λ_ iv _=>Q-(intOf iv).toNat)
 exact⟨0,_,_,[],[],o7,gr _,rfl,rfl,bD,A7,S7,⟨C3,OwnT.nil _ _ _ _ _⟩,qi⟩;{
 obtain⟨j,a,Nv,Ls,ns,om,hj,rfl,rfl,Em,Ea,Sm,jq,Am⟩:=hrel;have b5:=tF b3 Am af;have zg:=Am.size;by_cases bf:j<Q;{
 have bL:=aU j Q;have wj:IntKind.i64.wrap ((j:Int)+1)=((j+1:Nat):Int):=by rw[kU _ af];omega
 let⟨hC,hO⟩:=ae jq
 have HC:=ag hC;have HO:=ag hO;have hlen:=(vz en hb hl j S7 Em).2.2;have br5:=ag hlen;clear hC hO jq hlen
 let⟨PP,q1,c1,F1,G1,T1⟩:=oTs en Sm
 let⟨VV,q2,c2,F2,G2,T2⟩:=oTs en T1
 let⟨ow,q3,c3,F3,G3,T3⟩:=oVs en T2
 obtain⟨⟨mo,q4⟩,F4⟩:∃y,Hid (oB q3=y):=⟨_,bD⟩;obtain⟨c4,G4⟩:∃a,Hid (nJ n q4=a):=⟨_,bD⟩;have T4:Hid (jV n l q4):=by have:=BH (ae en) (ae T3);rw[ae F4]at this;exact this
 let⟨hh,q5,c5,F5,G5,T5⟩:=oVs en T4
 obtain⟨NP,eNP⟩:∃k,Le PP k:=⟨_,bD⟩;obtain⟨NV,eNV⟩:∃k,Le VV k:=⟨_,bD⟩;go_wp2_with fail;refine(aT6 en (ae HR _ b5) hb hl xv Sm Ea F1 G1 eNP).mono ?_;rintro z9 y1⟨pP,cP,rfl,oP,aG⟩;have b6:=aj b5 aG;have z1:=aG.size;go_wp2_with fail;refine(aT6 en (ae HR _ b6) hb hl xv T1 G1 F2 G2 eNV).mono ?_;rintro z9 y2⟨pV,cV,rfl,oV',aK⟩;have b7:=aj b6 aK;have z2:=aK.size
 let⟨lP,fP⟩:=Own.pb oP
 let⟨lV,fV⟩:=Own.pb oV'
 have FP:=ag (fP.below aK);have FV:=ag fV;have BX:=ag (aj aG aK);have C7:=ag (HC.below af BX);have R7:=ag ((R3.grown af (ae Am) bq).below af (ae BX));clear oP oV' fP fV aG aK;go_wp2_with fail;refine(uI en (ae HR _ b7) hb hl T2 G2 F3 G3).mono ?_;rintro z9 y3⟨rfl,rfl⟩;go_wp2_with fail;refine(bE2 en (ae HR _ b7) hb hl T3 G3 F4 G4).mono ?_;rintro z9 y4⟨rfl,rfl⟩;go_wp2_with fail;refine(uI en (ae HR _ b7) hb hl T4 G4 F5 G5).mono ?_;rintro z9 X⟨rfl,rfl⟩;have hhr:0<=hh/\hh<2^64:=by have:=iG (om:=q4);rw[ae F5]at this;exact this
 have n5:=Fl T5;rw[ae G5]at n5;have N5:=ag n5.1;have m5:-1<=c5/\c5<=n:=⟨n5.2.2,n5.2.1⟩;clear n5;by_cases h9:c5<0;{
 have hn:=N5.1 h9;have R8:=ag (R7.below af (aA.alloc ay (.cells #[.S pP NP cP,.S pV NV cV,.U ow,.I mo,aq,.U 0,.U 0,aq] 133)));have hP:dP l=none:=by
  rw[dP,ae SPO,JT (CL (ae Em) (by rw[px];simp only[ae F1,ae F2,ae F3,ae F4,ae F5];rw[bO (.inl hn)])) Q af]
  rfl
 have HD:=ag hP;clear hP
 let⟨r0,r1,r2,r3,r4,r5,rf⟩:=R8.c6
 have BB:=(NR b7 (o:=.cells #[.S pP NP cP,.S pV NV cV,.U ow,.I mo,aq,.U 0,.U 0,aq] 133));go_wp2;refine dJ (by simp[results,results73,go_sem,r0,r1,r2,r3,r4,r5]) rfl (Aw HD (qn BB))};{
 by_cases h10:50<hh;{
 have R8:=ag (R7.below af (aA.alloc ay (.cells #[.S pP NP cP,.S pV NV cV,.U ow,.I mo,aq,.U 0,.U 0,aq] 133)));have hP:dP l=none:=by
  rw[dP,ae SPO,JT (CL (ae Em) (by rw[px];simp only[ae F1,ae F2,ae F3,ae F4,ae F5];rw[bO (.inr h10)])) Q af]
  rfl
 have HD:=ag hP;clear hP
 let⟨r0,r1,r2,r3,r4,r5,rf⟩:=R8.c6
 have BB:=(NR b7 (o:=.cells #[.S pP NP cP,.S pV NV cV,.U ow,.I mo,aq,.U 0,.U 0,aq] 133));go_wp2;refine dJ (by simp[results,results73,go_sem,r0,r1,r2,r3,r4,r5]) rfl (Aw HD (qn BB))};{
 skip
 obtain⟨H,rfl⟩:∃K:Nat,hh=(K:Int):=⟨hh.toNat,af⟩;have hn5:¬q5=none:=λhh=>h9 (N5.2 hh);have HN5:=ag hn5;have wH:=e8 H;have hH:H<=50:=af
 let⟨nb,hnb⟩:=aB X.heap.size
 let⟨V5,hV5⟩:=aB (X.alloc (.cells #[.S pP NP cP,.S pV NV cV,.U ow,.I mo,aq,.U 0,.U 0,aq] 133))
 have Vk:=dX hV5;have CV:Hid (ar V5 nb [.S pP NP cP,.S pV NV cV,.U ow,.I mo,aq,.U 0,.U 0,aq]):=by show ar _ _ _;rw[hV5,hnb];exact ar.alloc X #[.S pP NP cP,.S pV NV cV,.U ow,.I mo,aq,.U 0,.U 0,aq] _
 have zV:V5.heap.size=nb+1:=by rw[hV5];simp;omega
 have ZX:Hid (X.heap.size=nb):=hnb.symm;have hsn:sb<nb:=af;have HNB:=ag hnb;clear N5 hn5 hnb;go_wp2;rw[<-hV5,<-ae HNB];clear hV5
 go_loopw[5,27](λav kv wr=>∃(i:Nat)(a:Int)(Hv:Value),i<=H/\av=.I a/\kv=.I i/\Hid (nJ n (rL oV i q5).2=a)/\Hid (jV n l (rL oV i q5).2)/\Hid (ar wr nb [.S pP NP cP,.S pV NV cV,.U ow,.I mo,Hv,.U 0,.U 0,aq]/\js (nb+1) wr Hv (rL oV i q5).1)/\Hid (Bw X wr)/\nb<wr.heap.size) (λ_ kv _=>H-(intOf kv).toNat)
 exact⟨0,_,_,gr _,rfl,rfl,G5,T5,⟨CV,gm _ _ _ _⟩,Vk,af⟩;{
 clear CV Vk zV;obtain⟨i,a',Hv,hi,rfl,rfl,Ei,Si,jq,Bi,zi⟩:=hrel;have b8:=aj b7 Bi;by_cases hlh:i<H;{
 have bJ4:=aU i H;have wi:IntKind.i64.wrap ((i:Int)+1)=((i+1:Nat):Int):=by rw[kU _ af];omega
 let⟨d,q6,c6,F6,G6,T6⟩:=oVs en Si
 go_wp2_with fail;refine(uI en (ae HR _ b8) hb hl Si Ei F6 G6).mono ?_;rintro z9 w2⟨rfl,rfl⟩
 let⟨hC,hO⟩:=ae jq
 let⟨v3,jO⟩:=aB (w2.alloc (.cells #[.U d] 27))
 have br:=dX jO;have DB:∀i u,([.U d]:List Value)[i]?=some u->v3.cell? (Ad w2.heap.size i)=some u:=jO▸mi;have uq:=ag DB;have z3:v3.heap.size=w2.heap.size+1:=by rw[jO];simp
 have YM:Hid (∀b,Hv.ownBlock=some b->nb+1<=b/\b<w2.heap.size):=λb e=>hO.lt b e;have C3:=ag (hC.below zi br);have B3:=ag (aj Bi br);have AK:Hid (v3.ownsRow (nb+1) 27 1 Hv i ((rL oV i q5).1.map (Value.int .u64))):=by have:=hO.below br;unfold js at this;rw[sK]at this;exact this
 have cl:=hC.1 4 _ rfl;clear DB hC hO jq;go_wp2_with(at_builtin;rw[<-jO];refine cR rfl 108 rfl iu 1 underlying108 hiu uz0 uz1 uz2 rfl bj Hv rfl (ae AK) w2.heap.size 1 1 [.U d] rfl rfl (ae uq) (λu hu=>by simp at hu;subst hu;rfl) iB af af ?_);intro v' w9 fo hg qz;rw[<-jO]at hg;have sn:=js.snoc (sK oV i q5) fo
 let⟨pN,cN,e9⟩:=sn.form
 rw[gU,sK]at e9;subst e9;have C9:=C3.grown af hg (λe=>aI (ae YM nb e.symm).1);have B9:Hid (Bw X w9):=B3.grown hg B3.size (λb e=>by have:=(ae YM b e).1;have:=ae ZX;omega);have z9:=hg.size;have CT:=ag (C9.dH 4 al (.S pN (i+1) cN));have OT:Hid (js (nb+1) (w9.setCell (Ad nb 4) (.S pN (i+1) cN)) (.S pN (i+1) cN) ((rL oV i q5).1++[d])):=Gx sn (aH w9 (Ad nb 4) _) (.inr λe=>aI (sn.lt nb e).1);have BT:Hid (Bw X (w9.setCell (Ad nb 4) (.S pN (i+1) cN))):=B9.setCell (by have:=ae ZX;simp;omega) _;have zT:nb<(w9.setCell (Ad nb 4) (.S pN (i+1) cN)).heap.size:=by simp;omega
 have cc:=C9.1 4 _ rfl;have cf:=C9.2;have EL:Hid ((rL oV i q5).1++[d]=(rL oV (i+1) q5).1/\(rL oV (i+1) q5).2=q6):=by show _/\_;rw[rL,ae F6];exact⟨rfl,rfl⟩
 clear fo hg qz sn C9 jO br cl;go_wp2;go_roundw;exact⟨i+1,c6,_,af,rfl,by go_num,(EL.2▸G6),(EL.2▸T6),(by rw[<-EL.1];exact⟨ae CT,ae OT⟩),BT,zT⟩;exact cg};{
 have bJ4:=dB i H
 skip
 have eiH:H=i:=af;subst eiH
 let⟨hC,hO⟩:=ae jq
 let⟨pH,cH,e9⟩:=hO.form
 rw[sK]at e9;subst e9;obtain⟨HL,eHL⟩:∃L,Hid ((rL oV H q5).1=L):=⟨_,bD⟩;rw[ae eHL]at hO;have lHL:Le HL H:=by show _=_;rw[<-ae eHL];exact sK _ _ _
 have HC9:=ag hC;have HO9:=ag hO;clear hC hO jq hi hlh bJ4
 let⟨ep,q7,c7,F7,G7,T7⟩:=oVs en Si
 let⟨ge,q8,c8,F8,G8,T8⟩:=oVs en T7
 go_wp2_with fail;refine(uI en (ae HR _ b8) hb hl Si Ei F7 G7).mono ?_;rintro z9 y5⟨rfl,rfl⟩;go_wp2_with fail;refine(uI en (ae HR _ b8) hb hl T7 G7 F8 G8).mono ?_;rintro z9 y6⟨rfl,rfl⟩;obtain⟨nd,bR9⟩:∃nd:aD,Hid (nd=⟨PP,VV,ow,mo,HL,ep,ge,[]⟩):=⟨_,bD⟩;have ESP:Hid (fI (j+1) o7=some (ns++[nd],q8)):=Pr Em (by rw[px];simp only[ae F1,ae F2,ae F3,ae F4,ae F5];rw[bH (by rw[Je];exact⟨ae HN5,af⟩)];simp only[sS,ae eHL,ae F7,ae F8];rw[ae bR9])
 have CA:=HC9.dH 5 al (.U ep);have CB:=CA.dH 6 al (.U ge)
 let⟨Z,hZ⟩:=aB ((y6.setCell (Ad nb 5) (.U ep)).setCell (Ad nb 6) (.U ge))
 rw[<-hZ]at CB;have BZ:Bw X Z:=by rw[hZ];exact(Bi.setCell (by have:=ae ZX;simp;omega) _).setCell (by have:=ae ZX;simp;omega) _
 have OZ:js (nb+1) Z (.S pH H cH) HL:=by rw[hZ];have o1:=Gx HO9 (aH y6 (Ad nb 5) (.U ep)) (.inr λe=>aI (HO9.lt nb e).1);exact Gx o1 (aH _ (Ad nb 6) (.U ge)) (.inr λe=>aI (o1.lt nb e).1)
 have zZ:nb<Z.heap.size:=by rw[hZ];simpa using zi
 have CZs:=C7.below (aI (ae ZX)) BZ
 let⟨v3,jO⟩:=aB (Z.alloc (.cells #[.S pP NP cP,.S pV NV cV,.U ow,.I mo,.S pH H cH,.U ep,.U ge,aq] 133))
 have hbz:=dX jO;have DB:∀i u,([.S pP NP cP,.S pV NV cV,.U ow,.I mo,.S pH H cH,.U ep,.U ge,aq]:List Value)[i]?=some u->v3.cell? (Ad Z.heap.size i)=some u:=jO▸mi;have ezz:Z.heap.size=y6.heap.size:=by rw[hZ];simp
 rw[ezz]at DB;have uq:=ag DB;have z3:v3.heap.size=Z.heap.size+1:=by rw[jO];simp
 have BX3:=aj BZ hbz;have Bw3:=aj BX BX3
 let⟨lH,fH⟩:=js.pu (OZ.below hbz)
 have zXn:=ae ZX;have ELN:Hid (iA v3 nd [.S pP NP cP,.S pV NV cV,.U ow,.I mo,.S pH H cH,.U ep,.U ge,aq] (lP++(lV++(lH++[])))/\jE wr.heap.size v3 (lP++(lV++(lH++[])))):=by have k0:=FP.below BX3;have k1:=FV.below BX3;have k4:=fH;rw[<-ae eNP]at k0;rw[<-ae eNV]at k1;rw[<-ae lHL]at k4;have:=iA.mk4 (nd:=⟨PP,VV,ow,mo,HL,ep,ge,[]⟩) (B:=wr.heap.size) k0 k1 k4 (PU.nil v3 v3.heap.size v3.heap.size) af af af af af af af af af af;dsimp only at this;rw[ae eNP,ae eNV,ae lHL]at this;rw[ae bR9];exact this
 let⟨row,la,tA⟩:=HO.app iA.keep Bw3 ELN.1 rfl ELN.2 af
 have YM:=ag HO.lt;rw[ae br5]at la tA;have JM:=ag tA;have AK:=ag la;have C3':=ag (CZs.below af hbz);have nsb:¬sb=nb:=af;have nbs:¬nb=sb:=af;have d5:=HC9.1 5 _ rfl;have d6:=HC9.1 6 _ rfl;have d0:=CB.1 0 _ rfl;have d1:=CB.1 1 _ rfl;have d2:=CB.1 2 _ rfl;have d3:=CB.1 3 _ rfl;have d4:=CB.1 4 _ rfl;have d5':=CB.1 5 _ rfl;have d6':=CB.1 6 _ rfl;have d7:=CB.1 7 _ rfl;have df:=HC9.2;have s5:=CZs.1 5 _ rfl;rw[hZ]at d0 d1 d2 d3 d4 d5' d6' d7 s5;have HZ:=ag hZ;have EZZ:=ag ezz;have BW3:=ag Bw3;have HBZ:=ag hbz;clear ezz tA DB la CA CB BZ OZ CZs fH hZ BX3 Bw3 hbz;go_wp2_with(at_builtin;rw[<-ae HZ,<-jO];refine cR rfl 39 rfl io 8 underlying39 hio oz0 oz1 oz2 rfl bj Nv rfl (ae AK) y6.heap.size 1 1 [.S pP NP cP,.S pV NV cV,.U ow,.I mo,.S pH H cH,.U ep,.U ge,aq] rfl rfl (ae uq) (λu hu=>by simp at hu;rcases hu with rfl|rfl|rfl|rfl|rfl|rfl|rfl|rfl<;>rfl) iB af af ?_);intro v' w9 fo hg yk;have ezz:=ae EZZ;have qz:∀g,v'.ownBlock=some g->Nv.ownBlock=some g\/v3.heap.size<=g:=λg e=>by have:=yk g e;rw[jO];simpa using this
 rw[<-jO]at hg;obtain⟨sn,pN,cN,rfl⟩:=ae JM v' w9 fo hg qz;have C9:=C3'.grown af hg (λe=>aI (YM.1 sb e.symm).1);have G9:w4.grownBy w9 (some sb):=iY (iY Am (aC BW3 none) (λb e=>by cases e)) hg (λb e=>.inl (YM.1 b e).1);have CT:=ag (C9.dH 5 al (.S pN (j+1) cN));have OT:=ag (sn.ag0 iA.keep (sb:=sb) af 5 (.S pN (j+1) cN));have GT:Hid (w4.grownBy (w9.setCell (Ad sb 5) (.S pN (j+1) cN)) (some sb)):=gC G9 (aH w9 (Ad sb 5) _);have cc:=C9.1 5 _ rfl;have cf:=C9.2;clear fo hg qz yk sn C9 G9 jO d0 d1 d2 d3 d4 d5 d6 d5' d6' d7 s5 df;go_wp2;go_roundw;exact⟨j+1,c8,_,_,_,q8,af,rfl,by go_num,ESP,G8,T8,⟨CT,OT⟩,GT⟩
 case measure=>simp[intOf];omega}}}}}
 {
 have bL:=dB j Q
 skip
 have ejQ:Q=j:=af;subst ejQ
 let⟨hC,hO⟩:=ae jq
 let⟨v1',v2',hlen⟩:=vz en hb hl Q S7 Em
 obtain⟨pN,cN,evN,-⟩:=id hO.read;rw[hlen]at evN;subst evN;obtain⟨sl,esl⟩:∃L,Hid ((rL oV K o4).1.map Ti=L):=⟨_,bD⟩;have hSL:Hid (∀s∈sl,s.2=(0,[])):=λs hs=>by
  rw[<-ae esl]at hs;obtain⟨i,-,rfl⟩:=iR.1 hs
  rfl
 have HNS:=ag v1';have ES:Hid (yQ l=some ((e,g,x),sl,ns,om)):=by
  show _=_;rw[ae SPO,ae Em,ae esl]
  rfl
 have Ox:Le sl K:=by show _=_;rw[<-ae esl];exact ae HSL
 have Vw:Le ns Q:=hlen;obtain⟨L3,OS,EW,hm2⟩:∃L3,OwnT jy 132 3 (sb+1) wr (.S pS K cS) sl L3/\(∀a∈L3.flatten,a.b<w4.heap.size)/\∀b,(Value.slice pS K cS).ownBlock=some b->b<w4.heap.size:=by refine⟨_,?_,λa' ha=>(O3.lt.2 a' ha).2,λb bN=>(O3.lt.1 b bN).2⟩;rw[<-ae esl];exact O3.keep (jy.keep _ _) zg (λb bN=>Am.block b (O3.lt.1 b bN).2 (by have:=(O3.lt.1 b bN).1;simp;omega)) (λa' ha=>Am.block _ (O3.lt.2 a' ha).2 (by have:=(O3.lt.2 a' ha).1;simp;omega))
 obtain⟨rs,A1',lvs,aps,hi1⟩:kr wr (.S pS K cS) sl/\∃A,uj wr (.S pS K cS) sl A/\jE (sb+1) wr A/\∀a∈A,a.b<w4.heap.size:=by
  let⟨A,q1,q2,q3⟩:=OS.AU (M:=w4.heap.size) EW hm2
  exact⟨OS.se.1,A,q1,q2,q3⟩
 let⟨rn,A2',lvn,apn⟩:=hO.no
 have FF:Hid (gJ (sb+1) wr pS K cS pN Q cN sl ns):=⟨A1',A2',rs,rn,lvs,lvn,aps.app (apn.mono af) af hi1⟩;have RR:=ag (ai rs rn);have C9:=ag hC;have R9:=ag (R3.grown af (ae Am) bq);have na:=Fl Sm;rw[ae Ea]at na;have NA:=ag na.1;have ma:-1<=a/\a<=n:=⟨na.2.2,na.2.1⟩;clear na hC hO jq OS EW hm2 lvs aps hi1 lvn apn rs rn v1' v2' hlen hj bf bL;by_cases h11:a<0;{
 have hn:=NA.1 h11;have hP:dP l=none:=by rw[dP,ae ES,zE,bH (λhh=>hh.1 hn)]
 have HD:=ag hP;clear hP
 let⟨r0,r1,r2,r3,r4,r5,rf⟩:=R9.c6
 have BB:=b5;go_wp2;refine dJ (by simp[results,results73,go_sem,r0,r1,r2,r3,r4,r5]) rfl (Aw HD (qn BB))};{
 skip
 have me:¬om=none:=λhh=>h11 (NA.2 hh);have HNO:=ag me;clear me;obtain⟨B,eB⟩:∃B,Hid (kG e g x 0 sl ns=B):=⟨_,bD⟩;have qg:Hid (∀s∈sl,s.2.2.length<=1048576/\∀e∈s.2.2,aN e.2/\e.2.length<=1048576):=λs hs=>by have:=ae hSL s hs;rw[this];exact⟨gr _,λe he=>by simp at he⟩
 have gh:Hid (∀nd∈ns,aN nd.path/\nd.path.length<=1048576/\nd.value.length<=1048576/\nd.holders.length<=1048576/\nd.watchers.length<=1048576):=λnd bu=>by have:=ae HNS nd bu;exact⟨this.by0,this.l0,this.l1,this.l4,by rw[this.l7];exact gr _⟩
 obtain⟨k0,k1,k2,k3,k4,k5,-⟩:=C9.c6;go_wp2_with fail;refine(Ug Ox Vw RR.1.rd RR.2 af af qg gh eB).mono ?_;rintro z9 u1⟨rfl,sj⟩;have b10:=aj b5 sj;have R10:=ag (R9.below af sj);have C10:=ag (C9.below af sj);have F10:=ag (FF.below sj);have bX0:=ag (ai (RR.1.below sj) (RR.2.below sj));have zu1:=sj.size;clear sj k0 k1 k2 k3 k4 k5;cases B with
 |false=>
  have hP:dP l=none:=by rw[dP,ae ES,zE,bH (λhh=>by have:=hh.2.1;simp only at this;rw[ae eB]at this;cases this)]
  have HD:=ag hP;clear hP
  let⟨r0,r1,r2,r3,r4,r5,rf⟩:=R10.c6
  have BB:=b10;go_wp2;refine dJ (by simp[results,results73,go_sem,r0,r1,r2,r3,r4,r5]) rfl (Aw HD (qn BB))
 |true=>
  have re:0<=e/\e<2^64:=by have:=iG (om:=some l);rw[ae E1]at this;exact this
  have rg:0<=g/\g<2^64:=by have:=iG (om:=o1);rw[ae E2]at this;exact this
  have rx:0<=x/\x<2^64:=by have:=iG (om:=o2);rw[ae E3]at this;exact this
  obtain⟨e',rfl⟩:∃v:Nat,e=(v:Int):=⟨e.toNat,af⟩;obtain⟨g',rfl⟩:∃v:Nat,g=(v:Int):=⟨g.toNat,af⟩;obtain⟨x',rfl⟩:∃v:Nat,x=(v:Int):=⟨x.toNat,af⟩;have HSM:=ag (Mh eB HNS);obtain⟨M,eM⟩:∃M,Hid ((DX e' g' x' sl ns).length=M):=⟨_,bD⟩;obtain⟨k0,k1,k2,k3,k4,k5,-⟩:=C10.c6;go_wp2_with fail;refine(KE af af af Ox Vw bX0.1.rd bX0.2 (ag HSM.w) eM).mono ?_;rintro z9 u2⟨pE,cE,rfl,oE,UX⟩;have b11:=aj b10 UX;have R11:=ag (R10.below af UX);have C11:=ag (C10.below af UX);have F11:=ag (F10.below UX);have zu2:=UX.size;have RE:=ag oE.rd;clear UX oE k0 k1 k2 k3 k4 k5;go_wp2_with fail;refine(jS eM en RE (ae HR _ b11) (L5 af af af HSM HNS) hb).mono ?_;rintro z9 u3⟨rfl,hu3⟩;have b12:=aj b11 hu3;have R12:=ag (R11.below af hu3);have C12:=ag (C11.below af hu3);have F12:=ag (F11.below hu3);have zu3:=hu3.size;clear hu3;by_cases hEq:DX e' g' x' sl ns=l;{
 have hd:decide (DX e' g' x' sl ns=l)=true:=by simpa using hEq
 have hP:dP l=some (((e':Int),(g':Int),(x':Int)),sl,ns):=by rw[dP,ae ES,zE,bO ⟨ae HNO,ae eB,by simpa using hEq⟩]
 have HD:Hid (Ip (dP l)=⟨e',g',x',0,sl,ns⟩/\Iq (dP l)=0):=by rw[hP];exact⟨rfl,rfl⟩
 rw[hd]
 let⟨r0,r1,r2,r3,r4,r5,rf⟩:=R12.c6
 obtain⟨k0,k1,k2,k3,k4,k5,-⟩:=C12.c6;have q1:¬w.heap.size=sb:=af;have q2:¬sb=w.heap.size:=af;clear hP hd hEq;go_wp2
 let⟨Z,hZ⟩:=aB ((((((u3.setCell (Ad w.heap.size 0) (.U e')).setCell (Ad w.heap.size 1) (.U g')).setCell (Ad w.heap.size 2) (.U x')).setCell (Ad w.heap.size 3) (.I 0)).setCell (Ad w.heap.size 4) (.S pS K cS)).setCell (Ad w.heap.size 5) (.S pN Q cN))
 have hkZ:∀z,z≠w.heap.size->Z.heap[z]?=u3.heap[z]?:=λz hz=>by
  rw[hZ]
  iterate 6 rw[ga _ _ _ _ hz]
 refine dJ (v:=.tuple #[dZ e' g' x' 0 (.S pS K cS) (.S pN Q cN),.I 0]) (by simp[results,results73,go_sem,r0,r1,r2,r3,r4,r5]) rfl ⟨?_,?_⟩;{rw[<-hZ,HD.1,HD.2];have f:=(F12.keep (w':=Z) (λz hz _=>hkZ z af)).mono (B':=w.heap.size) af;rw[<-ae Ox,<-ae Vw]at f⊢;exact⟨pS,cS,pN,cN,rfl,f⟩};{exact(((((b12.setCell al _).setCell al _).setCell al _).setCell al _).setCell al _).setCell al _}};{
 have hd:decide (DX e' g' x' sl ns=l)=false:=by simpa using hEq
 rw[hd];have hP:dP l=none:=by rw[dP,ae ES,zE,bH (λhh=>hEq (by simpa using hh.2.2))]
 have HD:=ag hP;clear hP
 let⟨r0,r1,r2,r3,r4,r5,rf⟩:=R12.c6
 have BB:=b12;go_wp2;refine dJ (by simp[results,results73,go_sem,r0,r1,r2,r3,r4,r5]) rfl (Aw HD (qn BB))}}}}}}}}}}
end Go.Proofs.YtnhnbpkfpaondaaGreatDoor
