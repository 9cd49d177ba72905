import Derived.Test.YtkakbcaiplggiaaGreatDoorK12
namespace Go.Proofs.YtkakbcaiplggiaaGreatDoor
set_option maxHeartbeats 12800000
set_option linter.all false
set_option maxRecDepth 100000
open Go.ChangeShapes Go.WideShapes Go.ChangeAt Go.RowKit Go.Maps Go.Proofs.Tryz
variable {A:List Lf}{B C L L' M N R b b2 c e g k:Nat}{EF o o' om:Option LI}{Ls:List (List Lf)}{V3 u w0:World}{a:Act}{a' d i t x y:Int}{c1 c2:Array Value}{l lm m xs:LI}{ls:List LI}{nd:aC}{ns:List aC}{ops:Array Oper}{p:OA}{s:Operand}{sh:Bool}{ss:List aP}{t1 t2 ty:TypeId}{v v0 v1 v2 v3 v4 v5 v6 v7:Value}{vs:List Value}
def AM.dur(h:AM ss ns):AM (ss.map jh) (ns.map iG):=by
 refine⟨?_,?_,λs hs=>?_,λnd bj=>?_,λi j s s' hi hj kr=>?_,λi j s s' hi hj kr=>?_⟩;{rw[D7];exact h.s1};{rw[qX];exact h.n1};{obtain⟨s0,Kz,rfl⟩:=ji.1 hs;exact⟨(h.s2 s0 Kz).1,by simp[jh],λe he=>by simp[jh]at he⟩};{obtain⟨n0,KH,rfl⟩:=ji.1 bj;obtain⟨a,b,c,d,-,f,-⟩:=h.n2 n0 KH;exact⟨a,b,c,d,by simp[iG],f,by simp[iG]⟩};{rw[nj]at hi hj;obtain⟨a,ha,rfl⟩:=xi.1 hi;obtain⟨a',Oh,rfl⟩:=xi.1 hj;exact h.s3 i j a a' ha Oh kr};{rw[nj]at hi hj;obtain⟨a,ha,rfl⟩:=xi.1 hi;obtain⟨a',Oh,rfl⟩:=xi.1 hj;exact h.n3 i j a a' ha Oh kr}
def Ri{e g:Int}{p q:OA}{c n d m:Nat}(en:Hid (ss.length=n))(em:Hid (ns.length=m)){w:World}(h:mg w (.S p n c) ss)(hN:oU w (.S q m d) ns)(hn:Mg n)(hm:Mg m)(HF:Hid (AM ss ns))(gq:Hid (∀nd∈ns,aN nd.path/\nd.path.length<=1048576/\nd.value.length<=1048576/\nd.holders.length<=1048576/\nd.watchers.length<=1048576))(Ci:Hid (∀nd∈ns,(∀i∈nd.holders,0<=i/\i<18446744073709551616)/\∀i∈nd.watchers,0<=i/\i<18446744073709551616)):Calls prog 165 #[ft e g x t (.S p n c) (.S q m d)] w λr w'=>∃p' c' q' d',r=.returned (ft e g x 0 (.S p' n c') (.S q' m d'))/\gD w.heap.size w' p' n c' q' m d' (ss.map jh) (ns.map iG)/\Bw w w':=by
 obtain⟨W,hW,b1,z1,C1⟩:=gO w (.U e) (.U g) (.U x) (.I t) (.S p n c) (.S q m d);obtain⟨W2,nF,b2,z2,C2⟩:=qO W;rw[z1]at C2 z2;have bW:=aj b1 b2;have HR:=af (ah (h.below bW) (ah (hN.below bW) (ah C2 (ah bW z2))));clear h hN C1 C2 bW b1 b2 z1 z2
 go_in
 go_wp2_with fail;rw[<-hW,<-nF];clear hW nF;refine(my en em HR.1 HR.2.1 hn hm (af λs hs=>(HF.s2 s hs).1) (af HF.s3) gq Ci (af HF.n3)).mono ?_;rintro r w4⟨b,bs,bn,SB,NB,HB,UB,rfl,cX,dS⟩;have P4:=af (PS.of cX dS (aa HF) (aa en▸hn) (aa em▸hm));have C4:=af (HR.2.2.1.below dS);clear cX dS;go_wp2_with fail;refine(Na P4 (af (KD.of HF)) (af HF.s3)).mono ?_;rintro r w5⟨P5,F5,v5,rfl⟩;have C5:=af (C4.fr F5);have ui:=af P5.be;have HF5:=HF.dur;have HS:=af (Bv P5.sto HF5.s1 HF5.n1 (by rw[dZ,aa en];exact hn) (by rw[dZ,aa em];exact hm) HF5.s2 HF5.n2);rw[show(ss.map jh).length=n by rw[dZ,aa en],show(ns.map iG).length=m by rw[dZ,aa em]]at HS;clear P5 F5 P4 C4 HF5;go_wp2_with fail;refine HS.mono ?_;rintro r w6⟨ps,cs,pn,cn,A1,A2,rfl,f1,f2,f3,f4,f5,ky⟩;obtain⟨r0,r1,r2,r3,r4,r5,rf⟩:=(C5.below ky).cells;have zz:=dQ HR.2.2.2.1.size ui.size;have bb:Bw w w6:=(HR.2.2.2.1.trans (ui.mono HR.2.2.2.1.size)).trans (ky.mono zz);have O6:=af (ah (((show gD w5.heap.size w6 ps n cs pn m cn _ _ from⟨A1,A2,f1,f2,f3,f4,f5⟩).keep (w':=dB w6 (w.heap.size+1) (.U e) (.U g) (.U x) (.I 0) (.S ps n cs) (.S pn m cn)) (λy h1 h2=>iI (by have:=ui.size;have:=HR.2.2.2.2;omega))).mono (B':=w.heap.size) zz) (bb.trans ((cT (w:=w6) (w.heap.size+1) (.U e) (.U g) (.U x) (.I 0) (.S ps n cs) (.S pn m cn)).mono ae)));clear f1 f2 f3 f4 f5 ky bb zz HS;go_wp2;exact dD (v:=ft e g x 0 (.S ps n cs) (.S pn m cn)) (by simp[results,results165,go_sem,r0,r1,r2,r3,r4,r5]) rfl ⟨ps,cs,pn,cn,rfl,O6.1,O6.2⟩
theorem Rm{w:World}(h:lQ w g vs ls)(hl:(cat ls).length<=4194304)(hk:ls.length<=1000):Calls prog 144 #[.T g ls.length C] w λe w'=>∃p' c',e=.returned (.S p' (cat ls).length c')/\Own w.heap.size w' (.S p' (cat ls).length c') (cat ls)/\Bw w w':=by
 obtain⟨i,hi,qc,iU,jU⟩:=gh Tryz.infoByte
 go_in
 go_wp2
 go_loopw[3,11](λs i wr=>∃k:Nat,k<=ls.length/\i=.I k/\s=.I ((cat (ls.take k)).length:Nat)/\Bw w wr) (λ_ i _=>ls.length-(intOf i).toNat)
 exact⟨0,fN _,rfl,by simp[cat],cR _ _⟩;{
 obtain⟨k,la,rfl,rfl,aK⟩:=hrel;have sA:=qL ls k;by_cases aT:k<ls.length;{
 obtain⟨p,c,l,e1,e2,e3⟩:=(h.below aK).get k aT;have cX:=vR e1;have hln:(cat (ls.take k)).length+l.length=(cat (ls.take (k+1))).length:=by rw[cX];simp
 have al8:=qL ls (k+1);have hle:(cat (ls.take k)).length+l.length<=4194304:=ae;have HL:=af hln;clear hln cX al8 e3 e1;generalize(cat (ls.take k)).length=a at*;go_wp2;go_roundw;exact⟨k+1,ae,by go_num,by rw[<-aa HL];go_num,aK⟩;exact bM};{
 have e:k=ls.length:=ae;subst e;rw[ng];rw[ng]at sA;go_wp2_with fail;refine(DC hl).mono ?_;rintro e w1⟨p1,c1,rfl,o1,aA⟩;replace o1:Own w.heap.size w1 (.S p1 0 c1) []:=o1.mono aK.size;have b1:=aj aK aA;clear aA aK sA;go_wp2
 go_loopw[6,27](λv i wr=>∃k:Nat,k<=ls.length/\i=.I k/\(∃p c,v=.S p (cat (ls.take k)).length c/\Own w.heap.size wr v (cat (ls.take k)))/\Bw w wr) (λ_ i _=>ls.length-(intOf i).toNat)
 exact⟨0,fN _,rfl,⟨p1,c1,by simp[cat],by simpa[cat]using o1⟩,b1⟩;{
 obtain⟨k,la,rfl,⟨pv,cv,rfl,ho⟩,aK⟩:=hrel;have sA:=qL ls k;by_cases aT:k<ls.length;{
 obtain⟨p,c,l,e1,e2,e3⟩:=(h.below aK).get k aT;have cX:=vR e1;have al8:=qL ls (k+1);have hle:(cat (ls.take k)).length+l.length<=4194304:=by have:=uO List.length cX;simp only[ir]at this;omega
 have HS:=af cX;clear cX al8 e1 o1 b1;generalize(cat (ls.take k))=a at*;cases p with
 |none=>
  have e:=e3.sc;subst e;have HA:=af (fO (P:=prog) 22 i underlying22 hi c ho);go_wp2_with(at_builtin;refine Lib.wpList_append_run _ rfl _ _ _ _ rfl _ _ rfl rfl _ _ (by exact HA) ?_);go_roundw;exact⟨k+1,ae,by go_num,⟨pv,cv,by rw[aa HS];simp,by rw[aa HS];simpa using ho⟩,aK⟩;exact bM
 |some ad=>
  obtain⟨n1,n2,n3⟩:=e3.news;clear e3;go_wp2_with(at_builtin;refine Kc _ rfl _ _ 22 rfl w.heap.size 5 i (.int .u8 0) 1 1 underlying22 hi qc iU jU rfl aZ _ _ _ rfl ho ad _ c (U l) rfl n1 n2 n3 iF ae aK.size ?_);intro v' w2 bO hg _;have b2:Bw w w2:=aK.grown hg aK.size (λk hk=>(ho.lt k hk).1);have mV:Own w.heap.size w2 v' (a++l):=by unfold Own;rw[ir,U,kT];exact bO
  obtain⟨p',c',rfl⟩:=mV.form;clear bO hg n2;go_wp2;go_roundw;exact⟨k+1,ae,by go_num,⟨p',c',by rw[aa HS],by rw[aa HS];exact mV⟩,b2⟩;exact bM};{have e:k=ls.length:=ae;subst e;rw[ng]at ho;clear o1 b1 sA;go_wp2;go_ret;exact⟨pv,cv,by rw[ng];rfl,ho,aK⟩}}}}
def uT{n k:Nat}(ek:Hid (k=ls.length))(e:Hid (lm=cat ls))(en:Hid (lm.length=n)){w:World}(h:lQ w g vs ls)(hl:n<=4194304)(hk:k<=1000):Calls prog 88 #[.T g k C] w λe w'=>∃p' c',e=.returned (.S p' n c')/\Own w.heap.size w' (.S p' n c') lm/\Bw w w':=by
 have e1:=aa ek;have e2:=aa e;have e3:=aa en;subst e1 e3 e2
 go_in
 go_wp2_with fail;refine(Rm h hl ae).mono ?_;rintro e w1⟨p1,c1,rfl,o1,aA⟩;go_wp2;go_ret;exact⟨p1,c1,rfl,o1,aA⟩
def yw(w:World)(x:LI)(c:List Value)(l:List Lf):Prop:=∃p cc,c=[.S p x.length cc]/\Rd w (.S p x.length cc) x/\SK (.S p x.length cc) x l
def yw.keep(w w':World)(x:LI)(c:List Value)(l:List Lf)(h:yw w x c l)(hk:∀a∈l,w'.heap[a.b]?=w.heap[a.b]?):yw w' x c l:=by
 obtain⟨p,cc,h1,h2,h3⟩:=h;exact⟨p,cc,h1,h2.dR h3 hk,h3⟩
abbrev rF(B:Nat)(w:World)(v:Value)(xs:List LI)(Ls:List (List Lf)):Prop:=OwnT yw 22 1 B w v xs Ls
def rF.one{w:World}(h:Own B w (.S p l.length c) l)(hB:B<=w.heap.size):∃Ls,rF B (w.alloc (.cells #[.S p l.length c] 22)) (.T w.heap.size 1 1) [l] Ls:=by
 have hb:Bw w (w.alloc (.cells #[.S p l.length c] 22)):=au.alloc ao _;have h':=Own.below h hb;obtain⟨A,q1,q2,-,q4⟩:=BI (kd:=.u8) h';refine⟨[A],[[.S p l.length c]],rfl,rfl,λc hc=>by simp at hc;subst hc;rfl,?_,λi x cc ll hx hc hl=>?_,by simpa using q2,λa ha=>?_⟩;{have:=ad1 (base:=B) (e:=22) (size:=1) w #[.S p l.length c] 1 hB aZ rfl;simpa using this};{
 have:i=0:=by have:=(bf.1 hx).1;simpa using this
 subst this;simp at hx hc hl;subst hx hc hl;exact⟨p,c,rfl,h'.rd,q1⟩};{
 have Oh:a∈A:=by simpa using ha
 have e:=q4 a Oh;have:=(h.lt a.b e).2;intro e2;simp only[Value.ownBlock,kU]at e2;omega}
def rF.parts{w:World}{n c:Nat}{xs:List LI}(h:rF B w (.S p n c) xs Ls)(hn:xs.length=n)(h0:0<n):∃g vs,p=some (Ad g 0)/\lQ w g vs xs:=by
 obtain⟨g,rfl,-⟩:=h.ptr hn h0;obtain⟨cs,h1,h2,h3,h4,h5,h6,h7⟩:=h;rw[hn]at h4;refine⟨g,cs.flatten,rfl,?_,λj v x hv hx=>?_⟩;{have:=h4.1;omega};{have hj:=(bf.1 hx).1;obtain⟨cc,hc⟩:∃x,cs[j]?=some x:=⟨_,bD ae⟩;obtain⟨l,hl⟩:∃x,Ls[j]?=some x:=⟨_,bD ae⟩;obtain⟨p',c',rfl,r1,-⟩:=h5 j x cc l hx hc hl;have e:=AD h3 hc (j:=0) aZ;rw[Dc,GK,hv]at e;simp at e;subst e;have e2:=h4.cellAt j ae;rw[hv]at e2;exact⟨e2,r1⟩}
def uk{α:Type}(f:α->LI)(l:List α):LI:=cat (vi l.length::l.map f)
def mT(i:Int):LI:=vi i.toNat
def Xr{c n:Nat}(en:Hid (l.length=n)){w:World}(h:rD w (.S p n c) l)(hn:n<=900)(hu:Hid (∀i∈l,0<=i/\i<18446744073709551616))(eN:Hid ((uk mT l).length=N))(hN:N<=4194304):Calls prog 219 #[.S p n c,.func (.func 166) #[] #[]] w λe w'=>∃p' c',e=.returned (.S p' N c')/\Own w.heap.size w' (.S p' N c') (uk mT l)/\Bw w w':=by
 obtain⟨ib,hib,qc,iU,jU⟩:=gh Tryz.infoSl;have HR:=af λ(w':World)(hb:Bw w w')=>h.below hb;clear h;have wn:IntKind.u64.wrap (n:Int)=(n:Int):=by rw[jj];omega
 go_in
 go_wp2_with fail;refine(jd ae).mono ?_;rintro r w1⟨p1,c1,rfl,o1,b1⟩;obtain⟨Ls0,hP⟩:=rF.one o1 b1.size;obtain⟨v0,mL⟩:=az (w1.alloc (.cells #[.S p1 (vi n).length c1] 22));have hb0:Bw w v0:=mL▸b1.alloc b1.size _;rw[<-mL]at hP;have HP:=af hP;clear hP o1;generalize(vi n).length=M at*;go_wp2;rw[<-mL];clear mL b1
 go_loopw[5,15](λpv iv wr=>∃(k:Nat)(p2:OA)(c2:Nat)(Ls:List (List Lf)),k<=n/\pv=.S p2 (k+1) c2/\iv=.I k/\Hid (rF w.heap.size wr (.S p2 (k+1) c2) (vi n::(l.take k).map mT) Ls)/\Bw w wr) (λ_ iv _=>n-(intOf iv).toNat)
 exact⟨0,_,_,_,fN _,rfl,rfl,HP,hb0⟩;{
 obtain⟨k,p2,c2,Ls,hk,rfl,rfl,ho,aK⟩:=hrel;by_cases aT:k<n;{
 have bu:=aS k n;have fh:k<l.length:=aa en▸aT;obtain⟨i,hy⟩:=mR fh;have hi:=aa hu i (aY hy);obtain⟨v,rfl⟩:∃v:Nat,i=(v:Int):=⟨i.toNat,ae⟩;obtain⟨b,o,rfl,hc⟩:∃b o,p=some (Ad b o)/\wr.cell? (Ad b (o+k))=some (.U v):=by obtain⟨p',c',ev,hd⟩:=aa HR _ aK;obtain⟨rfl,-,-⟩:=js ev;rcases hd with h0|⟨b,o,h1,h2⟩;{rw[h0]at fh;simp at fh};{refine⟨b,o,h1,?_⟩;have:=h2 k fh;rw[gK,hy,si]at this;exact this}
 have HY:=af hy;clear fh hy;have wk:IntKind.i64.wrap ((k:Int)+1)=((k+1:Nat):Int):=by rw[jL _ ae];omega
 go_wp2_with fail;refine(jd ae).mono ?_;rintro r w3⟨p3,c3,rfl,o3,aL⟩;have b3:=aj aK aL;have hA:Bw w3 (w3.alloc (.cells #[.S p3 (vi v).length c3] 22)):=au.alloc ao _;have OZ:=ho.below yw.keep (aj aL hA);have Hl:=ho.lt;obtain⟨lb,q1,q2,-,q4⟩:=BI (kd:=.u8) (Own.below o3 hA);have elz:yw (w3.alloc (.cells #[.S p3 (vi v).length c3] 22)) (vi v) [.S p3 (vi v).length c3] lb:=⟨p3,c3,rfl,(Own.below o3 hA).rd,q1⟩;obtain⟨cs,g1,g2,g3,g4,g5,g6,g7⟩:=id OZ;have nE:(vi n::(l.take k).map mT).length=k+1:=by rw[iT,dZ,od,aa en];omega
 rw[nE]at g4;have z3:=aL.size;have zr:=aK.size;have EL:=af elz;have Q2:=af q2;have GG:=af (ah g1 (ah g2 (ah g3 (ah g5 (ah g6 g7)))));have NQ:=af Hl;have LX:=af nE;clear hc o3 OZ q1 q2 q4 elz g1 g2 g3 g5 g6 g7 Hl nE ho;obtain⟨M3,eM3⟩:=aI ((vi v).length);rw[eM3]at g4 EL Q2 GG hA⊢;have EM3:=af eM3;clear eM3;have hcZ:∀j u,[Value.slice p3 M3 c3][j]?=some u->(w3.alloc (.cells #[.S p3 M3 c3] 22)).cell? (Ad w3.heap.size j)=some u:=λj u hu=>by have:=(al.alloc w3 #[.S p3 M3 c3] 22).1 j u (by simpa using hu);exact this
 go_wp2_with(at_builtin;refine cK rfl 76 rfl ib 1 underlying76 hib qc iU jU rfl aZ (.S p2 (k+1) c2) rfl g4 w3.heap.size 1 1 [.S p3 M3 c3] rfl rfl hcZ (λu hu=>by simp at hu;subst hu;rfl) iF ae aU ?_);intro v' w9 du hg mX;obtain⟨p9,c9,rfl⟩:∃p9 c9,v'=.S p9 (k+1+1) c9:=by rcases du.2 with⟨rfl,h0⟩|⟨g,cap,cur,rfl,-⟩;{omega};{exact⟨_,_,rfl⟩}
 obtain⟨g1,g2,g3,g5,g6,g7⟩:=aa GG;have Hl:=aa NQ;have Dq:w9.ownsRow w.heap.size 22 1 (.S p9 (k+1+1) c9) ((vi n::(l.take k).map mT).length+1) (cs.flatten++[.S p3 M3 c3]):=aa LX▸du;have sn:=OwnT.snoc g1 g2 g3 g5 g6 g7 yw.keep EL rfl Q2 ae (λa ha=>(Hl.2 a ha).2) (λb hb=>(Hl.1 b hb).2) Dq hg (λg yJ=>by have:=mX g yJ;simpa using this)
 have eL:(vi n::(l.take k).map mT)++[vi v]=vi n::(l.take (k+1)).map mT:=by rw[ni,aa HY,kT];simp[mT]
 rw[eL]at sn;have AY:Bw w w9:=(b3.alloc b3.size _).grown hg aU (λb hb=>(Hl.1 b hb).1);have SN:=af sn;clear sn eL du Dq hg mX g1 g2 g3 g4 g5 g6 g7 Hl hcZ GG EL Q2;go_wp2;go_roundw;exact⟨k+1,_,_,_,ae,rfl,by go_num,SN,AY⟩;exact bM};{
 have bu:=dm k n;have yx:n=k:=ae;subst yx;have hO:=aa ho;rw[ke (aa en▸iP _)]at hO;have nE:(vi n::l.map mT).length=n+1:=by rw[iT,dZ,aa en]
 obtain⟨G,vs,rfl,hPa⟩:=hO.parts nE ae;have HPA:=af hPa;have EE:Hid (uk mT l=cat (vi n::l.map mT)):=by show _=_;rw[uk,aa en]
 have LX:=af nE.symm;clear hO hPa nE ho hk aT;go_wp2_with fail;refine(uT LX EE eN HPA hN ae).mono ?_;rintro r w5⟨p5,c5,rfl,o5,e8⟩;have b5:=aj aK e8;have O5:=af (Own.mono (B':=w.heap.size) o5 aK.size);clear o5 e8;go_wp2;go_ret;exact⟨p5,c5,rfl,O5,b5⟩}}
abbrev NU(w:World)(b:Nat)(v0 v1 v2 v3 v4 v5 v6 v7:Value):Prop:=w.cell? (Ad b 0)=some v0/\w.cell? (Ad b 1)=some v1/\w.cell? (Ad b 2)=some v2/\w.cell? (Ad b 3)=some v3/\w.cell? (Ad b 4)=some v4/\w.cell? (Ad b 5)=some v5/\w.cell? (Ad b 6)=some v6/\w.cell? (Ad b 7)=some v7
def NU.below{w w':World}(h:NU w b v0 v1 v2 v3 v4 v5 v6 v7)(hb:Bw w w'):NU w' b v0 v1 v2 v3 v4 v5 v6 v7:=
 ⟨ag h.1 hb,ag h.2.1 hb,ag h.2.2.1 hb,ag h.2.2.2.1 hb,ag h.2.2.2.2.1 hb,ag h.2.2.2.2.2.1 hb,ag h.2.2.2.2.2.2.1 hb,ag h.2.2.2.2.2.2.2 hb⟩
def bt5(h:u.cell? (Ad b 0)=some (.int .u8 y)):Rd u (.T b 1 1) [y]:=by
 refine⟨_,_,rfl,.inr ⟨b,0,rfl,λi hi=>?_⟩⟩;have e:i=0:=by simpa using hi
 subst e;simpa using h
def vF{v:Nat}{w:World}(h64:v<18446744073709551616)(eM:Hid ((vi v).length=M)):Cp 166 #[.U v] w λe w'=>∃p' c',e=.returned (.S p' M c')/\Own w.heap.size w' (.S p' M c') (vi v)/\Bw w w':=by
 have e:=aa eM;subst e;exact jd h64
theorem aD8{X:World}{l0 l1 l2 l3 l4 l5 l6:LI}(e:Hid (lm=cat [l0,l1,l2,l3,l4,l5,l6]))(en:Hid (lm.length=N))(r0:Rd X v0 l0)(r1:Rd X v1 l1)(r2:Rd X v2 l2)(r3:Rd X v3 l3)(r4:Rd X v4 l4)(r5:Rd X v5 l5)(r6:Rd X v6 l6)(hl:N<=4194304):Cp 88 #[.T X.heap.size 7 7] (X.alloc (.cells #[v0,v1,v2,v3,v4,v5,v6] 22)) λe w'=>∃p' c',e=.returned (.S p' N c')/\Own X.heap.size w' (.S p' N c') lm/\Bw X w':=by
 have ba:Bw X (X.alloc (.cells #[v0,v1,v2,v3,v4,v5,v6] 22)):=au.alloc ao _;refine(gv (vs:=[v0,v1,v2,v3,v4,v5,v6]) [l0,l1,l2,l3,l4,l5,l6] 7 rfl e en ⟨rfl,λj v x e1 e2=>?_⟩ hl ae).mono ?_;{
 match j,e1,e2 with
 |0,e1,e2=>simp at e1 e2;subst e1 e2;exact⟨ai,r0.below ba⟩
 |1,e1,e2=>simp at e1 e2;subst e1 e2;exact⟨ai,r1.below ba⟩
 |2,e1,e2=>simp at e1 e2;subst e1 e2;exact⟨ai,r2.below ba⟩
 |3,e1,e2=>simp at e1 e2;subst e1 e2;exact⟨ai,r3.below ba⟩
 |4,e1,e2=>simp at e1 e2;subst e1 e2;exact⟨ai,r4.below ba⟩
 |5,e1,e2=>simp at e1 e2;subst e1 e2;exact⟨ai,r5.below ba⟩
 |6,e1,e2=>simp at e1 e2;subst e1 e2;exact⟨ai,r6.below ba⟩}
 {rintro e w'⟨p',c',rfl,o,hb⟩;exact⟨p',c',rfl,Own.mono o ai,aj ba hb⟩}
def YL(P V:LI)(ow:Nat)(mo:Int)(H:LI)(ep ge:Nat):LI:=cat [tx P,tx V,vi ow,[mo],uk mT H,vi ep,vi ge]
def oO(nd:aC):LI:=YL nd.path nd.value nd.owner.toNat nd.mode nd.holders nd.aJ.toNat nd.gen.toNat
theorem Md{p q r:OA}{n c m d k f:Nat}{U:Value}{P V H:LI}{ow ep ge:Nat}{mo:Int}(eP:Hid (P.length=n))(eV:Hid (V.length=m))(eH:Hid (H.length=k)){w:World}(hP:Rd w (.S p n c) P)(hV:Rd w (.S q m d) V)(hH:rD w (.S r k f) H)(bn:Mg n)(bm:Mg m)(bk:k<=900)(hu:Hid (∀i∈H,0<=i/\i<18446744073709551616))(b1:ow<18446744073709551616)(b2:ep<18446744073709551616)(b3:ge<18446744073709551616)(bmo:0<=mo/\mo<=2)(eN:Hid ((YL P V ow mo H ep ge).length=N))(hN:N<=4194304):Calls prog 170 #[ndV (.S p n c) (.S q m d) ow mo (.S r k f) ep ge U] w λe w'=>∃p' c',e=.returned (.S p' N c')/\Own w.heap.size w' (.S p' N c') (YL P V ow mo H ep ge)/\Bw w w':=by
 have HP:=af λ(w':World)(hb:Bw w w')=>ah (hP.below hb) (ah (hV.below hb) (hH.below hb));clear hP hV hH;have wm:IntKind.u8.wrap mo=mo:=by rw[Ai];omega
 obtain⟨N0,e0⟩:∃M,Hid ((tx P).length=M):=⟨_,bq⟩;obtain⟨N1,e1⟩:∃M,Hid ((tx V).length=M):=⟨_,bq⟩;obtain⟨N2,e2⟩:∃M,Hid ((vi ow).length=M):=⟨_,bq⟩;obtain⟨N4,e4⟩:∃M,Hid ((uk mT H).length=M):=⟨_,bq⟩;obtain⟨N5,e5⟩:∃M,Hid ((vi ep).length=M):=⟨_,bq⟩;obtain⟨N6,e6⟩:∃M,Hid ((vi ge).length=M):=⟨_,bq⟩;have hN4:N4<=4194304:=by have h1:=aa eN;have h2:=aa e4;simp only[YL,cat,tY,ir]at h1;omega
 have EE:Hid (YL P V ow mo H ep ge=cat [tx P,tx V,vi ow,[mo],uk mT H,vi ep,vi ge]):=by show _=_;rfl
 obtain⟨W0,dP⟩:=az (w.alloc (.cells #[.S p n c,.S q m d,.U ow,.I mo,.S r k f,.U ep,.U ge,U] 119));have bW0:=ew dP;have hA8:NU W0 w.heap.size (.S p n c) (.S q m d) (.U ow) (.I mo) (.S r k f) (.U ep) (.U ge) U:=by rw[dP];simp[NU,go_sem]
 go_in
 go_wp2_with fail;rw[<-dP];obtain⟨v,mL⟩:=az W0.drew;have BW:Hid (Bw w v):=mL▸bW0.drew;have S:Hid (NU v w.heap.size (.S p n c) (.S q m d) (.U ow) (.I mo) (.S r k f) (.U ep) (.U ge) U):=mL▸hA8;refine dC (λw'=>NU w' w.heap.size (.S p n c) (.S q m d) (.U ow) (.I mo) (.S r k f) (.U ep) (.U ge) U) (mL▸aa S) λhS=>?_;rw[<-mL]at hS⊢;clear mL dP bW0 hA8;refine nK 0 1 3 4 6 7 9 10 hS ?_;refine mU 11 13 14 16 hS ?_;refine kG 17 19 hS ?_;refine tn 20 hS ?_
 iterate 7 (
  all_goals(first|refine IW 2 (λKK hK=>?_)|refine IW 5 (λKK hK=>?_)|refine IW 8 (λKK hK=>?_)|refine IW 15 (λKK hK=>?_)|refine IW 18 (λKK hK=>?_)|refine IW 21 (λKK hK=>?_)|refine IW 12 (λKK hK=>?_)|refine Sl 2 12 (λKK hK=>?_) (λKK hK=>?_)|refine Sl 5 12 (λKK hK=>?_) (λKK hK=>?_)|refine Sl 8 12 (λKK hK=>?_) (λKK hK=>?_)|refine Sl 12 15 (λKK hK=>?_) (λKK hK=>?_)|refine Sl 12 18 (λKK hK=>?_) (λKK hK=>?_)|refine Sl 12 21 (λKK hK=>?_) (λKK hK=>?_))
  all_goals(first
   |(
    refine Tag.go 2 ?_;refine jv (mh eP (aa HP _ BW).1 bn e0) ?_;rintro z9 v'⟨pA,cA,rfl,o,hb⟩;refine⟨_,rfl,?_⟩;have RA:=af o.rd;clear o)
   |(
    refine Tag.go 5 ?_;refine jv (mh eV (aa HP _ BW).2.1 bm e1) ?_;rintro z9 v'⟨pB,cB,rfl,o,hb⟩;refine⟨_,rfl,?_⟩;have RB:=af o.rd;clear o)
   |(
    refine Tag.go 8 ?_;refine jv (vF b1 e2) ?_;rintro z9 v'⟨pC,cC,rfl,o,hb⟩;refine⟨_,rfl,?_⟩;have RC:=af o.rd;clear o)
   |(
    refine Tag.go 15 ?_;refine yZ (Xr eH (aa HP _ BW).2.2 bk hu e4 hN4) ?_;rintro z9 v'⟨pD,cD,rfl,o,hb⟩;refine⟨_,rfl,?_⟩;have RD:=af o.rd;clear o)
   |(
    refine Tag.go 18 ?_;refine jv (vF b2 e5) ?_;rintro z9 v'⟨pE,cE,rfl,o,hb⟩;refine⟨_,rfl,?_⟩;have RE:=af o.rd;clear o)
   |(
    refine Tag.go 21 ?_;refine jv (vF b3 e6) ?_;rintro z9 v'⟨pF,cF,rfl,o,hb⟩;refine⟨_,rfl,?_⟩;have RF:=af o.rd;clear o)
   |(
    refine Tag.go 12 ?_;go_simp;obtain⟨v',hv⟩:=az (v.alloc (.cells #[.int .u8 mo] 5));have hb:=ew hv;have hp:v'.cell? (Ad v.heap.size 0)=some (.int .u8 mo):=by rw[hv];simp
    rw[<-hv];obtain⟨GL,hGL⟩:=az v.heap.size;rw[<-hGL]at hp⊢;have RL:=af (bt5 hp);clear hv hp hGL))
  all_goals(
   have S:=af (S.below hb);have BW:=af (aj BW hb)
   try have RA:=af (RA.below hb)
   try have RB:=af (RB.below hb)
   try have RC:=af (RC.below hb)
   try have RD:=af (RD.below hb)
   try have RE:=af (RE.below hb)
   try have RF:=af (RF.below hb)
   try have RL:=af (RL.below hb)
   refine gr hK (by exact S) λhS=>?_;clear hK KK hb
   rename World=>v
   skip))
 all_goals(
  refine dM 22 (λKK hK=>?_);go_simp;obtain⟨Y,hY⟩:=az (v.alloc (.cells #[.S pA N0 cA,.S pB N1 cB,.S pC N2 cC,.T GL 1 1,.S pD N4 cD,.S pE N5 cE,.S pF N6 cF] 22));have hbY:=ew hY;have SY:=af (S.below hbY);have JJ:=af (aD8 EE eN RA RB RC RL RD RE RF hN);rw[<-hY]at JJ⊢;refine gr hK (by exact SY) λhS=>?_;clear hK KK hY hbY;refine dM 23 (λKK hK=>?_);refine jv JJ ?_;rintro z9 Z⟨pj,cj,rfl,oj,sC⟩;refine⟨_,rfl,?_⟩;have FI:=af (ah (Own.mono (B':=w.heap.size) oj BW.size) (aj (aa BW) sC));refine gr hK (by exact S.below sC) λhS=>?_;clear hK KK oj sC;refine tn 24 hS ?_;refine dw ?_;clear hS;go_wp2;go_ret;exact⟨pj,cj,rfl,FI⟩
  skip)
def uE(s:aP):LI:=vi s.1.toNat
def LF{v:Nat}{n c:Nat}{w:World}(h64:v<18446744073709551616):Calls prog 168 #[.agg #[.U v,.I d,.S p n c]] w λe w'=>∃p' c',e=.returned (.S p' (vi v).length c')/\Own w.heap.size w' (.S p' (vi v).length c') (vi v)/\Bw w w':=by
 go_in
 go_wp2_with fail;have hb:Bw w (w.alloc (.cells #[.U v,.I d,.S p n c] 84)):=au.alloc ao _;refine(jd h64).mono ?_;rintro r w1⟨p1,c1,rfl,o1,b1⟩;have b2:=aj hb b1;have o2:=Own.mono (B':=w.heap.size) o1 ai;clear o1 b1;go_wp2;go_ret;exact⟨p1,c1,rfl,o2,b2⟩
def Xs{c n:Nat}{l:List aP}(en:Hid (l.length=n)){w:World}(h:mg w (.S p n c) l)(hn:n<=900)(hu:Hid (∀s∈l,0<=s.1/\s.1<18446744073709551616))(eN:Hid ((uk uE l).length=N))(hN:N<=4194304):Calls prog 167 #[.S p n c,.func (.func 168) #[] #[]] w λe w'=>∃p' c',e=.returned (.S p' N c')/\Own w.heap.size w' (.S p' N c') (uk uE l)/\Bw w w':=by
 obtain⟨ib,hib,qc,iU,jU⟩:=gh Tryz.infoSl;have HR:=af λ(w':World)(hb:Bw w w')=>h.below hb;clear h;have wn:IntKind.u64.wrap (n:Int)=(n:Int):=by rw[jj];omega
 go_in
 go_wp2_with fail;refine(jd ae).mono ?_;rintro r w1⟨p1,c1,rfl,o1,b1⟩;obtain⟨Ls0,hP⟩:=rF.one o1 b1.size;obtain⟨v0,mL⟩:=az (w1.alloc (.cells #[.S p1 (vi n).length c1] 22));have hb0:Bw w v0:=mL▸b1.alloc b1.size _;rw[<-mL]at hP;have HP:=af hP;clear hP o1;generalize(vi n).length=M at*;go_wp2;rw[<-mL];clear mL b1
 go_loopw[5,15](λpv iv wr=>∃(k:Nat)(p2:OA)(c2:Nat)(Ls:List (List Lf)),k<=n/\pv=.S p2 (k+1) c2/\iv=.I k/\Hid (rF w.heap.size wr (.S p2 (k+1) c2) (vi n::(l.take k).map uE) Ls)/\Bw w wr) (λ_ iv _=>n-(intOf iv).toNat)
 exact⟨0,_,_,_,fN _,rfl,rfl,HP,hb0⟩;{
 obtain⟨k,p2,c2,Ls,hk,rfl,rfl,ho,aK⟩:=hrel;by_cases aT:k<n;{
 have bu:=aS k n;have fh:k<l.length:=aa en▸aT;obtain⟨⟨i,dl,qu⟩,hy⟩:=mR fh;have hi:=aa hu _ (aY hy);dsimp only at hi;obtain⟨v,rfl⟩:∃v:Nat,i=(v:Int):=⟨i.toNat,ae⟩;obtain⟨b,o,rfl,wF,iW,pq,nq,cq,ku⟩:∃b o,p=some (Ad b o)/\wr.cell? (Ad b (o+k*3))=some (.U v)/\wr.cell? (Ad b (o+k*3+1))=some (.I dl)/\∃pq nq cq,wr.cell? (Ad b (o+k*3+2))=some (.S pq nq cq):=by obtain⟨p',c',ev,hd⟩:=aa HR _ aK;obtain⟨rfl,-,-⟩:=js ev;rcases hd with h0|⟨b,o,h1,h2⟩;{rw[h0]at fh;simp at fh};{obtain⟨d1,d2,u,d3,d4⟩:=h2 k _ hy;obtain⟨pq,cq,rfl,-⟩:=d4;exact⟨b,o,h1,d1,d2,pq,_,cq,d3⟩}
 have HY:=af hy;clear fh hy;have wk:IntKind.i64.wrap ((k:Int)+1)=((k+1:Nat):Int):=by rw[jL _ ae];omega
 go_wp2_with fail;obtain⟨X,hX⟩:=az (wr.alloc (.cells #[.U v,.I dl,.S pq nq cq] 84));have MT:=ew hX;have mV:=af (ho.below yw.keep MT);have am4:=aj aK MT;rw[<-hX];clear hX ho aK MT;refine(LF ae).mono ?_;rintro r w3⟨p3,c3,rfl,o3,aL⟩;have b3:=aj am4 aL;have hA:Bw w3 (w3.alloc (.cells #[.S p3 (vi v).length c3] 22)):=au.alloc ao _;have OZ:=mV.below yw.keep (aj aL hA);have Hl:=mV.lt;obtain⟨lb,q1,q2,-,q4⟩:=BI (kd:=.u8) (Own.below o3 hA);have elz:yw (w3.alloc (.cells #[.S p3 (vi v).length c3] 22)) (vi v) [.S p3 (vi v).length c3] lb:=⟨p3,c3,rfl,(Own.below o3 hA).rd,q1⟩;obtain⟨cs,g1,g2,g3,g4,g5,g6,g7⟩:=id OZ;have nE:(vi n::(l.take k).map uE).length=k+1:=by rw[iT,dZ,od,aa en];omega
 rw[nE]at g4;have z3:=aL.size;have zr:=am4.size;have EL:=af elz;have Q2:=af q2;have GG:=af (ah g1 (ah g2 (ah g3 (ah g5 (ah g6 g7)))));have NQ:=af Hl;have LX:=af nE;clear wF iW ku o3 OZ q1 q2 q4 elz g1 g2 g3 g5 g6 g7 Hl nE mV;obtain⟨M3,eM3⟩:=aI ((vi v).length);rw[eM3]at g4 EL Q2 GG hA⊢;have EM3:=af eM3;clear eM3;have hcZ:∀j u,[Value.slice p3 M3 c3][j]?=some u->(w3.alloc (.cells #[.S p3 M3 c3] 22)).cell? (Ad w3.heap.size j)=some u:=λj u hu=>by have:=(al.alloc w3 #[.S p3 M3 c3] 22).1 j u (by simpa using hu);exact this
 go_wp2_with(at_builtin;refine cK rfl 76 rfl ib 1 underlying76 hib qc iU jU rfl aZ (.S p2 (k+1) c2) rfl g4 w3.heap.size 1 1 [.S p3 M3 c3] rfl rfl hcZ (λu hu=>by simp at hu;subst hu;rfl) iF ae aU ?_);intro v' w9 du hg mX;obtain⟨p9,c9,rfl⟩:∃p9 c9,v'=.S p9 (k+1+1) c9:=by rcases du.2 with⟨rfl,h0⟩|⟨g,cap,cur,rfl,-⟩;{omega};{exact⟨_,_,rfl⟩}
 obtain⟨g1,g2,g3,g5,g6,g7⟩:=aa GG;have Hl:=aa NQ;have Dq:w9.ownsRow w.heap.size 22 1 (.S p9 (k+1+1) c9) ((vi n::(l.take k).map uE).length+1) (cs.flatten++[.S p3 M3 c3]):=aa LX▸du;have sn:=OwnT.snoc g1 g2 g3 g5 g6 g7 yw.keep EL rfl Q2 ae (λa ha=>(Hl.2 a ha).2) (λb hb=>(Hl.1 b hb).2) Dq hg (λg yJ=>by have:=mX g yJ;simpa using this)
 have eL:(vi n::(l.take k).map uE)++[vi v]=vi n::(l.take (k+1)).map uE:=by rw[ni,aa HY,kT];simp[uE]
 rw[eL]at sn;have AY:Bw w w9:=(b3.alloc b3.size _).grown hg aU (λb hb=>(Hl.1 b hb).1);have SN:=af sn;clear sn eL du Dq hg mX g1 g2 g3 g4 g5 g6 g7 Hl hcZ GG EL Q2;go_wp2;go_roundw;exact⟨k+1,_,_,_,ae,rfl,by go_num,SN,AY⟩;exact bM};{
 have bu:=dm k n;have yx:n=k:=ae;subst yx;have hO:=aa ho;rw[ke (aa en▸iP _)]at hO;have nE:(vi n::l.map uE).length=n+1:=by rw[iT,dZ,aa en]
 obtain⟨G,vs,rfl,hPa⟩:=hO.parts nE ae;have HPA:=af hPa;have EE:Hid (uk uE l=cat (vi n::l.map uE)):=by show _=_;rw[uk,aa en]
 have LX:=af nE.symm;clear hO hPa nE ho hk aT;go_wp2_with fail;refine(uT LX EE eN HPA hN ae).mono ?_;rintro r w5⟨p5,c5,rfl,o5,e8⟩;have b5:=aj aK e8;have O5:=af (Own.mono (B':=w.heap.size) o5 aK.size);clear o5 e8;go_wp2;go_ret;exact⟨p5,c5,rfl,O5,b5⟩}}
def xD(e g x:Nat)(ss:List aP)(ns:List aC):LI:=cat [vi e,vi g,vi x,uk uE ss,uk oO ns]
def Wj{α:Type}(f:α->LI)(h:α->α)(hf:∀x,f (h x)=f x)(l:List α):uk f (l.map h)=uk f l:=by
 rw[uk,uk,dZ,qX]
 congr 2
 exact Di λx _=>hf x
def az5(e g x:Nat)(ss:List aP)(ns:List aC):xD e g x (ss.map jh) (ns.map iG)=xD e g x ss ns:=by
 rw[xD,xD,Wj uE jh (λ_=>rfl),Wj oO iG (λ_=>rfl)]
theorem Fe{α:Type}(f:α->LI)(C:Nat):∀l:List α,(∀x∈l,(f x).length<=C)->(cat (l.map f)).length<=C*l.length
 |[],_=>fN _
 |x::l,h=>by have h1:=Fe f C l λy hy=>h y (by simp[hy]);have h2:=h x ai;rw[iM,cat,tY,ir,iT,ad5];rw[cat]at h1;omega
def rh{α:Type}(f:α->LI)(l:List α):uk f l=vi l.length++cat (l.map f):=by rw[uk,cat,tY,cat]
structure Vd(ss:List aP)(ns:List aC):Prop where
 n1:ss.length<=50
 n2:ns.length<=200
 s:∀s∈ss,0<=s.1/\s.1<18446744073709551616
 d:∀nd∈ns,(nd.path.length<=136/\nd.value.length<=40/\nd.holders.length<=50)/\(0<=nd.mode/\nd.mode<=2)/\(0<=nd.owner/\nd.owner<18446744073709551616)/\(0<=nd.aJ/\nd.aJ<18446744073709551616)/\(0<=nd.gen/\nd.gen<18446744073709551616)/\∀i∈nd.holders,0<=i/\i<18446744073709551616
def Vd.w(h:Vd ss ns):SmW ss ns:=⟨dQ h.n1 (by decide),dQ h.n2 (by decide),h.s,λnd bj=>by
 obtain⟨⟨a,b,c⟩,d,e⟩:=h.d nd bj;exact⟨⟨a,ae,ae⟩,ae,e⟩⟩
def Vd.dur(h:Vd ss ns):Vd (ss.map jh) (ns.map iG):=by
 refine⟨by rw[dZ];exact h.n1,by rw[dZ];exact h.n2,λs hs=>?_,λnd bj=>?_⟩;{obtain⟨s0,h0,rfl⟩:=ji.1 hs;exact h.s s0 h0};{obtain⟨n0,h0,rfl⟩:=ji.1 bj;exact h.d n0 h0}
def Tp{e g:Int}(h:mY e g x t ss ns=true)(Ci:∀nd∈ns,(∀i∈nd.holders,0<=i/\i<18446744073709551616)/\∀i∈nd.watchers,0<=i/\i<18446744073709551616)(QT:∀nd∈ns,0<=nd.owner/\nd.owner<18446744073709551616)(Y5:∀nd∈ns,(0<=nd.aJ/\nd.aJ<18446744073709551616)/\0<=nd.gen/\nd.gen<18446744073709551616):Vd ss ns:=by
 obtain⟨h1,h2,h3,h4,h5⟩:=(FB e g x t ss ns).1 h;simp only[Dj,jw]at h1;refine⟨ae,ae,Ly h2 ae,λnd bj=>?_⟩;have hv:=h3;rw[kO,fx]at hv;have YP:∀y∈ns,vY e g y=true:=(mu ns gu (vY e g)).1 λi hi=>jy.1 hv.1 i (Cd.2 hi);have Uf:=YP nd bj;simp only[vY,fx,jw]at Uf;obtain⟨g1,g2,g3,g4,g5⟩:=Uf;refine⟨⟨Fl g1,g2,?_⟩,?_,QT nd bj,(Y5 nd bj).1,(Y5 nd bj).2,(Ci nd bj).1⟩;{
 have ha:=Ip g4;have aF3:nd.holders.Nodup:=ha.imp (λ{a b}Sy=>ae);have:=EG nd.holders (ss.map (·.1)) aF3 λi hi=>by have:=h5 nd bj i (by unfold xx;simp[hi]);obtain⟨z,hz,rfl⟩:=(GR (ss:=ss) (i:=i)).1 this;exact ji.2 ⟨z,hz,rfl⟩
 rw[dZ]at this;omega};{unfold fe at g3;split at g3;{omega};{simp only[fx]at g3;have:=g3.2.2;split at this;{omega};{simp only[fx,Mo]at this;omega}}}
def Mh(h:SmW ss ns):∀nd∈ns,(oO nd).length<=800/\(uk mT nd.holders).length<=520:=by
 intro nd bj;obtain⟨⟨h1,h2,h3⟩,-⟩:=h.d nd bj;have a1:=uz nd.path;have a2:=uz nd.value;have a3:=fq nd.owner.toNat;have a4:=fq nd.aJ.toNat;have a5:=fq nd.gen.toNat;have a6:(uk mT nd.holders).length<=520:=by have b1:=fq nd.holders.length;have b2:=Fe mT 10 nd.holders λx _=>(fq _).2;rw[rh,ir];omega
 refine⟨?_,a6⟩;simp only[oO,YL,cat,tY,af8,ir,iT,Af];omega
def Vr{x:Nat}(h:SmW ss ns):(xD e g x ss ns).length<=190000/\(uk uE ss).length<=600/\(uk oO ns).length<=170000:=by
 have a1:=fq e;have a2:=fq g;have a3:=fq x;have b1:=fq ss.length;have b2:=Fe uE 10 ss λx _=>(fq _).2;have b3:=fq ns.length;have b4:=Fe oO 800 ns λx hx=>(Mh h x hx).1;have:=h.n1;have:=h.n2;have c1:(uk uE ss).length<=600:=by rw[rh,ir];omega
 have c2:(uk oO ns).length<=170000:=by rw[rh,ir];omega
 refine⟨?_,c1,c2⟩;simp only[xD,cat,tY,af8,ir,Af];omega
def En(e g x t:Int)(ss:List aP)(ns:List aC):LI:=if mY e g x t ss ns=true then xD e.toNat g.toNat x.toNat ss ns else[]
def Own.nil(B:Nat)(w:World):Own B w (.S none 0 0) []:=⟨rfl,.inl ⟨rfl,rfl⟩⟩
def rL{α σ:Type}(f:σ->α×σ):Nat->σ->List α×σ
 |0,o=>([],o)
 |k+1,o=>((rL f k o).1++[(f (rL f k o).2).1],(f (rL f k o).2).2)
theorem aA9{α σ:Type}(f:σ->α×σ)(k:Nat)(o:σ):rL f (k+1) o=((f o).1::(rL f k (f o).2).1,(rL f k (f o).2).2):=by
 induction k with
 |zero=>rfl
 |succ k ih=>rw[rL,ih];rfl
theorem sO{α σ:Type}(f:σ->α×σ)(k:Nat)(o:σ):(rL f k o).1.length=k:=by
 induction k with
 |zero=>rfl
 |succ k ih=>rw[rL,ir,ih];rfl
theorem L9{α:Type}(f:Option LI->α×Option LI)(g:α->LI):∀(xs:List α)(rest:LI),(∀x∈xs,∀r,f (some (g x++r))=(x,some r))->rL f xs.length (some (cat (xs.map g)++rest))=(xs,some rest)
 |[],rest,_=>rfl
 |x::xs,rest,h=>by rw[iT,aA9,iM,cat,tY,sU,h x ai];have:=L9 f g xs rest λy hy=>h y (by simp[hy]);rw[cat]at this;simp only[this]
def px(o:Option LI):Option (aC×Option LI):=
 let a:=oT o
 let b:=oT a.2
 let c:=oV b.2
 let d:=oB c.2
 let h:=oV d.2
 if h.2=none\/50<h.1 then none
 else
  let l:=rL oV h.1.toNat h.2
  let e:=oV l.2
  let g:=oV e.2
  some (⟨a.1,b.1,c.1,d.1,l.1,e.1,g.1,[]⟩,g.2)
def fM:Nat->Option LI->Option (List aC×Option LI)
 |0,o=>some ([],o)
 |k+1,o=>(fM k o).bind λr=>(px r.2).map λq=>(r.1++[q.1],q.2)
theorem Pa(k:Nat)(o:Option LI):fM (k+1) o=(px o).bind λq=>(fM k q.2).map λr=>(q.1::r.1,r.2):=by
 induction k with
 |zero=>
  simp only[fM,Aa,Gp];cases px o<;>rfl
 | succ k ih=>
  rw[fM,ih];cases px o with
  |none=>rfl
  | some q=>
   simp only[Aa];rw[fM];cases fM k q.2 with
   |none=>rfl
   |some r=>
    simp only[Jg,Aa];cases px r.2<;>rfl
def Sq(i:Int):aP:=(i,0,[])
def yX(l:LI):Option ((Int×Int×Int)×List aP×List aC×Option LI):=
 let a:=oV (some l)
 let b:=oV a.2
 let c:=oV b.2
 let d:=oV c.2
 if d.2=none\/50<d.1 then none
 else
  let s:=rL oV d.1.toNat d.2
  let m:=oV s.2
  if m.2=none\/200<m.1 then none
  else(fM m.1.toNat m.2).map λr=>((a.1,b.1,c.1),s.1.map Sq,r.1,r.2)
def dK(l:LI):Option ((Int×Int×Int)×List aP×List aC):=
 (yX l).bind λr=>if r.2.2.2≠none/\mY r.1.1 r.1.2.1 r.1.2.2 0 r.2.1 r.2.2.1=true/\xD r.1.1.toNat r.1.2.1.toNat r.1.2.2.toNat r.2.1 r.2.2.1=l then some (r.1,r.2.1,r.2.2.1)else none
def Gf{s:Nat}{r:LI}(h:s<18446744073709551616):oV (some (vi s++r))=((s:Int),some r):=by
 rw[oV,VA r h]
def aM9(P:LI){r:LI}(h:P.length<18446744073709551616):oT (some (tx P++r))=(P,some r):=by
 rw[oT,ZP r h]
def Ge(h:0<=i/\i<18446744073709551616)(r:LI):oV (some (mT i++r))=(i,some r):=by
 rw[mT,Gf ae,CU h.1]
def Tn(h:Vd ss ns)(bj:nd∈ns)(hw:nd.watchers=[])(r:LI):px (some (oO nd++r))=some (nd,some r):=by
 obtain⟨⟨h1,h2,h3⟩,h4,h5,h6,h7,h8⟩:=h.d nd bj;have e:oO nd++r=tx nd.path++(tx nd.value++(mT nd.owner++([nd.mode]++(vi nd.holders.length++(cat (nd.holders.map mT)++(mT nd.aJ++(mT nd.gen++r))))))):=by rw[oO,YL,rh];simp[cat,mT]
 rw[e,px];simp only[aM9 nd.path ae,aM9 nd.value ae,Ge h5,D6,Gp,oB];rw[Gf (s:=nd.holders.length) ae];simp only[qY];rw[bG aU,L9 oV mT nd.holders _ λi hi r=>Ge (h8 i hi) r];simp only[Ge h6,Ge h7,kU,fQ,aN9];rw[<-hw]
theorem CH(h:Vd ss ns):∀(xs:List aC)(r:LI),(∀x∈xs,x∈ns/\x.watchers=[])->fM xs.length (some (cat (xs.map oO)++r))=some (xs,some r)
 |[],r,_=>rfl
 |x::xs,r,hx=>by rw[iT,Pa,iM,cat,tY,sU,Tn h (hx x ai).1 (hx x ai).2];have:=CH h xs r λy hy=>hx y (by simp[hy]);rw[cat]at this;simp only[Aa,this,Jg]
def Vs(e g x:Nat)(ss:List aP)(ns:List aC):xD e g x ss ns=vi e++(vi g++(vi x++(vi ss.length++(cat (ss.map uE)++(vi ns.length++(cat (ns.map oO)++[])))))):=by
 rw[xD,rh,rh];simp[cat]
def aA4:ss.map uE=(ss.map (·.1)).map mT:=by
 rw[qX]
 rfl
def ai9(h:∀s∈ss,s.2=(0,[])):(ss.map (·.1)).map Sq=ss:=by
 rw[qX]
 conv=>rhs;rw[<-ag1 ss]
 refine Di λs hs=>?_;obtain⟨a,b⟩:=s;have:=h _ hs;simp only at this;simp[Sq,this]
def Xd{x:Nat}(he:e<18446744073709551616)(hg:g<18446744073709551616)(hx:x<18446744073709551616)(h:Vd ss ns)(h1:∀s∈ss,s.2=(0,[]))(h2:∀nd∈ns,nd.watchers=[]):yX (xD e g x ss ns)=some (((e:Int),(g:Int),(x:Int)),ss,ns,some []):=by
 have n1:=h.n1;have n2:=h.n2;rw[Vs,yX];simp only[Gf he,Gf hg,Gf hx,Gf (show ss.length<18446744073709551616 by omega),qY];have hr:rL oV ss.length (some (cat (ss.map uE)++(vi ns.length++(cat (ns.map oO)++[]))))=(ss.map (·.1),some (vi ns.length++(cat (ns.map oO)++[]))):=by
  have:=L9 oV mT (ss.map (·.1)) (vi ns.length++(cat (ns.map oO)++[])) λi hi r=>by obtain⟨s,hs,rfl⟩:=ji.1 hi;exact Ge (h.s s hs) r
  rw[dZ]at this;rw[aA4,this]
 rw[bG aU,hr];simp only[Gf (show ns.length<18446744073709551616 by omega),qY];rw[bG aU,CH h ns [] λy hy=>⟨hy,h2 y hy⟩,ai9 h1]
 rfl
abbrev Rs:Type:=LI×Bool
def jF(s:Rs):Int×Rs:=sN 10 0 0 s.1 s.2
def we{α:Type}(f:Rs->α×Rs):Nat->List α->Rs->List α×Rs
 |0,acc,s=>(acc,s)
 |k+1,acc,s=>if(f s).2.2=true then([],(f s).2)else we f k (acc++[(f s).1]) (f s).2
def lF{α:Type}(f:Rs->α×Rs)(s:Rs):List α×Rs:=we f (jF s).1.toNat [] (jF s).2
def Vz(s:Rs):aP×Rs:=(Sq (jF s).1,(jF s).2)
def LG(s:Rs):aC×Rs:=
 let a:=sT s.1 s.2
 let b:=sT a.2.1 a.2.2
 let c:=jF b.2
 let d:=sB c.2.1 c.2.2
 let h:=lF jF d.2
 let e:=jF h.2
 let g:=jF e.2
 (⟨a.1,b.1,c.1,d.1,h.1,e.1,g.1,[]⟩,g.2)
def qw(l:LI):(Int×Int×Int)×List aP×List aC×Rs:=
 let a:=jF (l,false)
 let b:=jF a.2
 let c:=jF b.2
 let s:=lF Vz c.2
 let n:=lF LG s.2
 ((a.1,b.1,c.1),s.1,n.1,n.2)
def ko(l:LI):Option ((Int×Int×Int)×List aP×List aC):=
 let r:=qw l
 if r.2.2.2.2=false/\En r.1.1 r.1.2.1 r.1.2.2 0 r.2.1 r.2.2.1=l then some (r.1,r.2.1,r.2.2.1)else none
def FM{s:Nat}{r:LI}(h:s<18446744073709551616):jF (vi s++r,false)=((s:Int),r,false):=ZL (rest:=r) (sh:=false) h
def zh(h:0<=i/\i<18446744073709551616)(r:LI):jF (mT i++r,false)=(i,r,false):=by
 rw[mT,FM ae,CU h.1]
theorem QC{α:Type}(f:Rs->α×Rs)(g:α->LI):∀(xs acc:List α)(rest:LI),(∀x∈xs,∀r,f (g x++r,false)=(x,r,false))->we f xs.length acc (cat (xs.map g)++rest,false)=(acc++xs,rest,false)
 |[],acc,rest,_=>by simp[we,cat]
 |x::xs,acc,rest,h=>by rw[iT,we,iM,cat,tY,sU,h x ai];have:=QC f g xs (acc++[x]) rest λy hy=>h y (by simp[hy]);rw[cat]at this;rw[bG ai];simp only[this,sU,D6,Gp]
def Mw{α:Type}(f:Rs->α×Rs)(g:α->LI)(xs:List α){rest:LI}(hl:xs.length<18446744073709551616)(h:∀x∈xs,∀r,f (g x++r,false)=(x,r,false)):lF f (vi xs.length++(cat (xs.map g)++rest),false)=(xs,rest,false):=by
 rw[lF,FM hl];simp only[qY];rw[QC f g xs [] rest h]
 rfl
def ZJ(h:Vd ss ns)(bj:nd∈ns)(hw:nd.watchers=[]){r:LI}:LG (oO nd++r,false)=(nd,r,false):=by
 obtain⟨⟨h1,h2,h3⟩,h4,h5,h6,h7,h8⟩:=h.d nd bj;have e:oO nd++r=tx nd.path++(tx nd.value++(mT nd.owner++(nd.mode::(vi nd.holders.length++(cat (nd.holders.map mT)++(mT nd.aJ++(mT nd.gen++r))))))):=by rw[oO,YL,rh];simp[cat,mT]
 rw[e,LG];simp only[Vy nd.path (sh:=false) ae,Vy nd.value (sh:=false) ae,zh h5,sB];rw[Mw jF mT nd.holders ae λi hi r=>zh (h8 i hi) r];simp only[zh h6,zh h7,fQ,aN9];rw[<-hw]
def XA{x:Nat}(he:e<18446744073709551616)(hg:g<18446744073709551616)(hx:x<18446744073709551616)(h:Vd ss ns)(h1:∀s∈ss,s.2=(0,[]))(h2:∀nd∈ns,nd.watchers=[]):qw (xD e g x ss ns)=(((e:Int),(g:Int),(x:Int)),ss,ns,[],false):=by
 have n1:=h.n1;have n2:=h.n2;rw[Vs,qw];simp only[FM he,FM hg,FM hx];rw[Mw Vz uE ss ae λs hs r=>by have:=zh (h.s s hs) r;obtain⟨a,b⟩:=s;have hb:=h1 _ hs;simp only at hb;rw[Vz,uE,<-mT,this];simp[Sq,hb]]
 simp only;rw[Mw LG oO ns ae λy hy r=>ZJ h hy (h2 y hy) (r:=r)]
def mE{s:Rs}(h:s.2=true):(jF s).2.2=true:=LH 10 0 0 s.1 s.2 h
theorem ah0{α:Type}(f:Rs->α×Rs)(hf:∀s:Rs,s.2=true->(f s).2.2=true):∀(k:Nat)(acc:List α)(s:Rs),s.2=true->(we f k acc s).2.2=true
 |0,_,_,h=>h
 |k+1,acc,s,h=>by rw[we,bN (hf s h)];exact hf s h
def Mx{α:Type}(f:Rs->α×Rs)(hf:∀s:Rs,s.2=true->(f s).2.2=true){s:Rs}(h:s.2=true):(lF f s).2.2=true:=ah0 f hf _ _ _ (mE h)
def ZK(s:Rs)(h:s.2=true):(LG s).2.2=true:=
 mE (mE (Mx jF (λ_=>mE) (Ew (mE (Eu (Eu h))))))
def ai7:(qw []).2.2.2.2=true:=by
 have h0:(jF (([],false):Rs)).2.2=true:=by unfold jF;show(sN 10 0 0 [] false).2.2=true;rw[sN];simp[sB]
 exact Mx LG ZK (Mx Vz (λ_=>mE) (mE (mE h0)))
def U64(i:Int):Prop:=0<=i/\i<18446744073709551616
structure RgN(nd:aC):Prop where
 by0:aN nd.path
 by1:aN nd.value
 l0:nd.path.length<=1048576
 l1:nd.value.length<=1048576
 l4:nd.holders.length<=1048576
 l7:nd.watchers=[]
 ow:U64 nd.owner
 ep:U64 nd.aJ
 ge:U64 nd.gen
 ho:∀i∈nd.holders,U64 i
 mo:0<=nd.mode/\nd.mode<256
def iL:U64 (oV om).1:=Gg
theorem TC{α σ:Type}(f:σ->α×σ)(P:α->Prop)(I:σ->Prop)(hf:∀s,I s->P (f s).1/\I (f s).2)(k:Nat)(o:σ)(ho:I o):(∀x∈(rL f k o).1,P x)/\I (rL f k o).2:=by
 induction k with
 |zero=>exact⟨λx hx=>by simp[rL]at hx,ho⟩
 |succ k ih=>
  rw[rL];obtain⟨h1,h2⟩:=hf _ ih.2;refine⟨λx hx=>?_,h2⟩;rcases gM.1 hx with hx|hx;{exact ih.1 x hx};{rw[nW]at hx;rw[hx];exact h1}
def ZD{n:Nat}(en:l.length=n)(hb:aN l)(hl:Mg n)(hs:ki n l o)(h:px o=some (nd,o')):RgN nd/\ki n l o'/\nd.holders.length<=50:=by
 rw[px]at h;have s1:=Gh en hs;have s2:=Gh en s1;have s3:=ig en s2;have s4:=BK en s3;have s5:=ig en s4;have t0:=qV hb hs;have t1:=qV hb s1;have m0:=ab3 hb s3;simp only at h;split at h;{cases h};{
 next hc=>
 simp only[kU,fQ]at h;obtain⟨rfl,rfl⟩:=h;obtain⟨r1,r2⟩:=TC oV U64 (ki n l) (λs hs=>⟨iL,ig en hs⟩) (oV (oB (oV (oT (oT o).2).2).2).2).1.toNat _ s5;have hlen:=sO oV (oV (oB (oV (oT (oT o).2).2).2).2).1.toNat (oV (oB (oV (oT (oT o).2).2).2).2).2;have h50:(rL oV (oV (oB (oV (oT (oT o).2).2).2).2).1.toNat (oV (oB (oV (oT (oT o).2).2).2).2).2).1.length<=50:=by rw[hlen];simp only[Je,Int.not_lt]at hc;omega
 exact⟨⟨t0.1,t1.1,by have:=t0.2;simp only;omega,by have:=t1.2;simp only;omega,by simp only;omega,rfl,iL,iL,iL,r1,m0⟩,ig en (ig en r2),h50⟩}
theorem vI{n:Nat}(en:l.length=n)(hb:aN l)(hl:Mg n)(k:Nat)(hs:ki n l o)(h:fM k o=some (ns,o')):(∀nd∈ns,RgN nd)/\ki n l o'/\ns.length=k:=by
 induction k generalizing ns o' with
 |zero=>
  simp only[fM,kU,fQ]at h;obtain⟨rfl,rfl⟩:=h;exact⟨λnd bj=>(by simp at bj),hs,rfl⟩
 | succ k ih=>
  rw[fM]at h;cases h1:fM k o with
  |none=>rw[h1]at h;cases h
  | some r=>
   obtain⟨r1,r2⟩:=r;rw[h1]at h;obtain⟨g1,g2,g3⟩:=ih h1;simp only[Aa]at h;cases h2:px r2 with
   |none=>rw[h2]at h;cases h
   |some q=>
    obtain⟨q1,q2⟩:=q;rw[h2]at h;simp only[Jg,kU,fQ]at h;obtain⟨rfl,rfl⟩:=h;obtain⟨e1,e2,-⟩:=ZD en hb hl g2 h2;refine⟨λnd bj=>?_,e2,by rw[ir,g3];rfl⟩;rcases gM.1 bj with bj|bj;{exact g1 nd bj};{rw[nW]at bj;rw[bj];exact e1}
def Okf{α:Type}(f:Rs->α×Rs)(P:α->Prop):Prop:=∀s:Rs,aN s.1->s.1.length<=1048576->P (f s).1/\aN (f s).2.1/\(f s).2.1.length<=s.1.length/\((f s).2.2=false->(f s).2.1.length<s.1.length)
theorem iD:Okf jF U64:=λs hb hl=>by
 obtain⟨h1,h2,h3,h4⟩:=FN 10 0 0 s.1 s.2 hb ae;refine⟨⟨h3,h4⟩,h1,h2,λhs=>?_⟩;obtain⟨m,sh⟩:=s;cases m with
 |nil=>
  have:(jF (([],sh):Rs)).2.2=true:=by unfold jF;show(sN 10 0 0 [] sh).2.2=true;rw[sN];simp[sB]
  rw[this]at hs;cases hs
 |cons c t=>
  show(sN 10 0 0 (c::t) sh).2.1.length<_;rw[sN];split;{simp[sB]};{have:=(FN 9 (0+1) (uf 0 0 c) t sh (λz hz=>hb z (by simp[hz])) (tC)).2.1;simp only[sB,iT];omega}
theorem ag9{α:Type}{f:Rs->α×Rs}{P:α->Prop}(hf:Okf f P):∀(k:Nat)(acc:List α)(s:Rs),aN s.1->s.1.length<=1048576->(∀x∈acc,P x)->(∀x∈(we f k acc s).1,P x)/\aN (we f k acc s).2.1/\(we f k acc s).2.1.length<=s.1.length/\(we f k acc s).1.length<=acc.length+s.1.length
 |0,acc,s,hb,hl,ha=>⟨ha,hb,iP _,Nat.le_add_right _ _⟩
 |k+1,acc,s,hb,hl,ha=>by
  obtain⟨h1,h2,h3,h4⟩:=hf s hb hl;rw[we];split;{exact⟨λx hx=>(by simp at hx),h2,h3,fN _⟩};{
 next hs=>
 have Hg:(f s).2.2=false:=by simpa using hs
 have h5:=h4 Hg;obtain⟨g1,g2,g3,g4⟩:=ag9 hf k (acc++[(f s).1]) (f s).2 h2 ae λx hx=>by rcases gM.1 hx with hx|hx;{exact ha x hx};{rw[nW]at hx;rw[hx];exact h1}
 refine⟨g1,g2,ae,?_⟩;rw[ir]at g4;simp only[iT,Af]at g4;omega}
def Kt{α:Type}{f:Rs->α×Rs}{P:α->Prop}(hf:Okf f P){s:Rs}(hb:aN s.1)(hl:s.1.length<=1048576):(∀x∈(lF f s).1,P x)/\aN (lF f s).2.1/\(lF f s).2.1.length<=s.1.length/\(lF f s).1.length<=s.1.length:=by
 obtain⟨h1,h2,h3,h4⟩:=iD s hb hl;obtain⟨g1,g2,g3,g4⟩:=ag9 hf (jF s).1.toNat [] (jF s).2 h2 ae λx hx=>(by simp at hx);simp only[Af]at g4;exact⟨g1,g2,dQ g3 h3,by unfold lF;omega⟩
def cG6(s:aP):Prop:=U64 s.1/\s.2=(0,[])
def Tw:Okf Vz cG6:=λs hb hl=>by
 obtain⟨h1,h2,h3,h4⟩:=iD s hb hl;exact⟨⟨h1,rfl⟩,h2,h3,h4⟩
def Tx:Okf LG RgN:=λs hb hl=>by
 obtain⟨a1,a2,a3,a4⟩:=BG (sh:=s.2) hb;obtain⟨b1,b2,b3,b4⟩:=BG (sh:=(sT s.1 s.2).2.2) a2;obtain⟨c1,c2,c3,c4⟩:=iD (sT (sT s.1 s.2).2.1 (sT s.1 s.2).2.2).2 b2 ae;obtain⟨d1,d2,d3,d4⟩:=BH (sh:=(jF (sT (sT s.1 s.2).2.1 (sT s.1 s.2).2.2).2).2.2) c2;obtain⟨e1,e2,e3,e4⟩:=Kt iD d1 ae;obtain⟨f1,f2,f3,f4⟩:=iD (lF jF (sB (jF (sT (sT s.1 s.2).2.1 (sT s.1 s.2).2.2).2).2.1 (jF (sT (sT s.1 s.2).2.1 (sT s.1 s.2).2.2).2).2.2).2).2 e2 ae;obtain⟨g1,g2,g3,g4⟩:=iD (jF (lF jF (sB (jF (sT (sT s.1 s.2).2.1 (sT s.1 s.2).2.2).2).2.1 (jF (sT (sT s.1 s.2).2.1 (sT s.1 s.2).2.2).2).2.2).2).2).2 f2 ae;refine⟨⟨a1,b1,by show _<=_;simp only[LG];omega,by show _<=_;simp only[LG];omega,by show _<=_;simp only[LG];omega,rfl,c1,f1,g1,e1,⟨d2,d3⟩⟩,g2,?_,λhs=>?_⟩;{show(jF (jF (lF jF (sB (jF (sT (sT s.1 s.2).2.1 (sT s.1 s.2).2.2).2).2.1 (jF (sT (sT s.1 s.2).2.1 (sT s.1 s.2).2.2).2).2.2).2).2).2).2.1.length<=_;omega};{have:=g4 hs;show(jF (jF (lF jF (sB (jF (sT (sT s.1 s.2).2.1 (sT s.1 s.2).2.2).2).2.1 (jF (sT (sT s.1 s.2).2.1 (sT s.1 s.2).2.2).2).2.2).2).2).2).2.1.length<_;omega}
def LM{e g:Int}(h:mY e g x t ss ns=true)(hr:∀nd∈ns,RgN nd):Vd ss ns:=
 Tp h (λnd bj=>⟨(hr nd bj).ho,λi hi=>by rw[(hr nd bj).l7]at hi;simp at hi⟩) (λnd bj=>(hr nd bj).ow) (λnd bj=>⟨(hr nd bj).ep,(hr nd bj).ge⟩)
theorem Xa(hb:aN l)(hl:Mg l.length):dK l=ko l:=by
 have tu:∀s,dK l=some s->ko l=some s:=λs h=>by
  rw[dK]at h;cases hr:yX l with
  |none=>rw[hr]at h;cases h
  |some r=>
   rw[hr,Aa]at h;split at h;{
 next hc=>
 obtain⟨⟨e,g,x⟩,ss,ns,o⟩:=r;simp only[kU]at h hc;obtain⟨-,iV,hB⟩:=hc;have cX:=hr;rw[yX]at cX;simp only at cX;have q1:=ki.start (n:=l.length) (l:=l) rfl;have q2:=ig rfl q1;have q3:=ig rfl q2;have q4:=ig rfl q3;have q5:=ig rfl q4;split at cX;{cases cX};{
 obtain⟨u1,u2⟩:=TC oV U64 (ki l.length l) (λs hs=>⟨iL,ig rfl hs⟩) (oV (oV (oV (oV (some l)).2).2).2).1.toNat _ q5;split at cX;{cases cX};{
 rw[xi]at cX;obtain⟨⟨r1,r2⟩,h3,h4⟩:=cX;obtain⟨v1,-,-⟩:=vI rfl hb hl _ (ig rfl u2) h3;simp only[fQ]at h4;obtain⟨⟨rfl,rfl,rfl⟩,rfl,rfl,rfl⟩:=h4;have hS:=LM iV v1;have z1:=iL (om:=some l);have z2:=iL (om:=(oV (some l)).2);have z3:=iL (om:=(oV (oV (some l)).2).2);have w1:∀s∈((rL oV (oV (oV (oV (oV (some l)).2).2).2).1.toNat (oV (oV (oV (oV (some l)).2).2).2).2).1.map Sq),s.2=(0,[]):=λs hs=>by
  obtain⟨i,-,rfl⟩:=ji.1 hs
  rfl
 have him:=XA (e:=(oV (some l)).1.toNat) (g:=(oV (oV (some l)).2).1.toNat) (x:=(oV (oV (oV (some l)).2).2).1.toNat) (by have:=z1.2;have:=z1.1;omega) (by have:=z2.2;have:=z2.1;omega) (by have:=z3.2;have:=z3.1;omega) hS w1 (λnd bj=>(v1 nd bj).l7);rw[hB,CU z1.1,CU z2.1,CU z3.1]at him;rw[ko];simp only[him];rw[bN ⟨jR,by rw[En,bN iV];exact hB⟩,<-h]}}};{cases h}
 have fro:∀s,ko l=some s->dK l=some s:=λs h=>by
  rw[ko]at h;split at h;{
 next hc=>
 obtain⟨hsh,hE⟩:=hc;have iV:mY (qw l).1.1 (qw l).1.2.1 (qw l).1.2.2 0 (qw l).2.1 (qw l).2.2.1=true:=by by_cases hk:mY (qw l).1.1 (qw l).1.2.1 (qw l).1.2.2 0 (qw l).2.1 (qw l).2.2.1=true;{exact hk};{rw[En,bG hk]at hE;rw[<-hE,ai7]at hsh;cases hsh}
 rw[En,bN iV]at hE;obtain⟨a1,a2,a3,-⟩:=iD (l,false) hb hl;obtain⟨b1,b2,b3,-⟩:=iD (jF (l,false)).2 a2 (by simp only at a3;omega);obtain⟨c1,c2,c3,-⟩:=iD (jF (jF (l,false)).2).2 b2 (by simp only at a3;omega);obtain⟨d1,d2,d3,-⟩:=Kt Tw c2 (by simp only at a3;omega);obtain⟨e1,-⟩:=Kt Tx d2 (by simp only at a3;omega);have hS:=LM iV e1;have XD:=Xd (e:=(qw l).1.1.toNat) (g:=(qw l).1.2.1.toNat) (x:=(qw l).1.2.2.toNat) (by have:=a1.2;have:=a1.1;show(jF (l,false)).1.toNat<_;omega) (by have:=b1.2;have:=b1.1;show(jF (jF (l,false)).2).1.toNat<_;omega) (by have:=c1.2;have:=c1.1;show(jF (jF (jF (l,false)).2).2).1.toNat<_;omega) hS (λs hs=>(d1 s hs).2) (λnd bj=>(e1 nd bj).l7);rw[hE,CU (show 0<=(qw l).1.1 from a1.1),CU (show 0<=(qw l).1.2.1 from b1.1),CU (show 0<=(qw l).1.2.2 from c1.1)]at XD;rw[dK,XD,Aa,bN ⟨ai,iV,hE⟩];exact h};{cases h}
 cases h:dK l with
 |some s=>exact(tu s h).symm
 |none=>
  cases h2:ko l with
  |none=>rfl
  |some s=>rw[fro s h2]at h;cases h
def AH(h:∀l∈ls,aN l):aN (cat ls):=λz hz=>by
 rw[cat,Jc]at hz;obtain⟨l,hl,hz⟩:=hz;exact h l hl z hz
def yR(h:U64 i):aN (mT i):=kF (by have:=h.1;have:=h.2;omega)
def Zq(h:aN l)(hl:l.length<18446744073709551616):aN (tx l):=aN.app (kF hl) h
def aC1(h:RgN nd):aN (oO nd):=by
 rw[oO,YL];refine AH λl hl=>?_;simp only[jG,Ki,uP]at hl;rcases hl with rfl|rfl|rfl|rfl|rfl|rfl|rfl;{exact Zq h.by0 (aG h.l0)};{exact Zq h.by1 (aG h.l1)};{exact yR h.ow};{intro z hz;rw[nW]at hz;rw[hz];exact h.mo};{rw[uk];refine AH λl hl=>?_;rcases jG.1 hl with rfl|hl;{exact kF (aG h.l4)};{obtain⟨i,hi,rfl⟩:=ji.1 hl;exact yR (h.ho i hi)}};{exact yR h.ep};{exact yR h.ge}
def Lu{x:Nat}(he:e<18446744073709551616)(hg:g<18446744073709551616)(hx:x<18446744073709551616)(h:Vd ss ns)(hr:∀nd∈ns,RgN nd):aN (xD e g x ss ns):=by
 have n1:=h.n1;have n2:=h.n2;rw[xD];refine AH λl hl=>?_;simp only[jG,Ki,uP]at hl;rcases hl with rfl|rfl|rfl|rfl|rfl;{exact kF he};{exact kF hg};{exact kF hx};{rw[uk];refine AH λl hl=>?_;rcases jG.1 hl with rfl|hl;{exact kF ae};{obtain⟨s,hs,rfl⟩:=ji.1 hl;exact yR (h.s s hs)}};{rw[uk];refine AH λl hl=>?_;rcases jG.1 hl with rfl|hl;{exact kF ae};{obtain⟨nd,bj,rfl⟩:=ji.1 hl;exact aC1 (hr nd bj)}}
def sE{w w':World}{o:Obj}(h:w.heap[b]?=some o)(hb:Bw w w'):w'.heap[b]?=some o:=(hb.block b (Gq.1 h).1).trans h
def WJ{w:World}{o:Obj}:(w.alloc o).heap[w.heap.size]?=some o:=by unfold World.alloc;simp
def KY{w w':World}(ho:Own B w v l)(hg:w.grownBy w' v.ownBlock):∀(b:Nat)(cs:Array Value)(t:TypeId),t≠5->w.heap[b]?=some (.cells cs t)->w'.heap[b]?=some (.cells cs t):=λb cs t ht h=>by
 refine(hg.block b (Gq.1 h).1 λe=>?_).trans h;rcases ho.2 with⟨rfl,-⟩|⟨g,cap,cur,rfl,-,hh,-⟩;{simp[Value.ownBlock]at e};{simp only[Value.ownBlock,kU]at e;subst e;rw[h]at hh;simp only[kU,Obj.cells.injEq]at hh;exact ht hh.2.1}
def aT9(w w':World):Prop:=∀(b:Nat)(cs:Array Value)(t:TypeId),t≠5->w.heap[b]?=some (.cells cs t)->w'.heap[b]?=some (.cells cs t)
def S8{w0 w:World}{rest:List Oper}{o:Oper}{Q:Exit->Act->World->Prop}(mW:o.guard=none){x:Operand}(ho:o.op=.call {callee:=.builtin .append,args:=#[s,x],argTypes:=#[22,22]})(hB:Hid (Bw w0 w))(vr:Hid (lm=l++m))(hk:Hid (m.length=k))(eL:Hid (l.length=L))(eL':Hid (L'=L+k))(hs:a.eval s=v)(hx:a.eval x=.S p k c)(bO:Hid (Own w0.heap.size w v l))(hr:Hid (Rd w (.S p k c) m))(hl:L+k<=4194304)(hK:∀p' c' w',Hid (Own w0.heap.size w' (.S p' L' c') lm)->Hid (lm.length=L')->Hid (Bw w0 w')->Hid (aT9 w w')->wpList prog ops Q rest (a.put o.dst (.S p' L' c')) w'):wpList prog ops Q (o::rest) a w:=by
 have e1:lm.length=L':=by rw[aa vr,ir,aa eL,aa hk,aa eL']
 refine bQ mW ho v vr p c k hk hs hx (aa bO) (aa hr) (by rw[aa eL,aa hk];exact hl) hB.size ?_;intro p' c' w' h1 h2;rw[e1]at h1⊢;exact hK p' c' w' h1 e1 (dz hB h2 bO ao hB.size) (KY bO h2)
def Ov{rest:List Oper}{o:Oper}{Q:Exit->Act->World->Prop}(mW:o.guard=none){x:Operand}(ho:o.op=.call {callee:=.builtin .append,args:=#[s,x],argTypes:=#[22,22]})(hB:Hid (Bw w0 u))(vr:Hid (lm=l++[y]))(eL:Hid (l.length=L))(eL':Hid (L'=L+1))(hs:a.eval s=v)(hx:a.eval x=.T u.heap.size 1 1)(bO:Hid (Own w0.heap.size u v l))(hl:L<4194304)(hK:∀p' c' w',Hid (Own w0.heap.size w' (.S p' L' c') lm)->Hid (lm.length=L')->Hid (Bw w0 w')->Hid (aT9 u w')->wpList prog ops Q rest (a.put o.dst (.S p' L' c')) w'):wpList prog ops Q (o::rest) a (u.alloc (.cells #[.int .u8 y] 5)):=by
 have e1:lm.length=L':=by rw[aa vr,ir,aa eL,aa eL'];rfl
 have hb:Bw u (u.alloc (.cells #[.int .u8 y] 5)):=au.alloc ao _;have mV:=bO.below hb;have iY:=aj hB hb;refine fo mW ho v vr u.heap.size hs hx mV ai (aa eL▸hl) iY.size ?_;intro p' c' w' h1 h2;rw[e1]at h1⊢;exact hK p' c' w' h1 e1 (dz iY h2 mV ao iY.size) λb cs t ht h=>KY mV h2 b cs t ht (sE h hb)
def jO.dJ{w:World}{e g:Int}{S N:Value}(h:w.heap[b]?=some (.cells #[.U e,.U g,.U x,.I t,S,N] ty)):jO w b e g x t S N:=⟨aq h 0,aq h 1,aq h 2,aq h 3,aq h 4,aq h 5⟩
def NU.dJ{w:World}(h:w.heap[b]?=some (.cells #[v0,v1,v2,v3,v4,v5,v6,v7] ty)):NU w b v0 v1 v2 v3 v4 v5 v6 v7:=⟨aq h 0,aq h 1,aq h 2,aq h 3,aq h 4,aq h 5,aq h 6,aq h 7⟩
def pW{v:Nat}{w:World}(h64:v<18446744073709551616)(eM:Hid ((vi v).length=M)):Cp 81 #[.U v] w λe w'=>∃p' c',e=.returned (.S p' M c')/\Own w.heap.size w' (.S p' M c') (vi v)/\Bw w w':=Cg 9 v w ae h64 ae M eM
def ru{α:Type}(f:α->LI){l:List α}{y:α}(h:l[k]?=some y):cat ((l.take (k+1)).map f)=cat ((l.take k).map f)++f y:=by
 rw[ni,h,kT,cat,Ko,cat];simp
def aW2(e g x:Nat)(ss:List aP)(ns:List aC):xD e g x ss ns=((((vi e++vi g)++vi x)++vi ss.length)++cat (ss.map uE)++vi ns.length)++cat (ns.map oO):=by
 rw[xD,rh,rh];simp[cat]
def aY0(nd:aC):oO nd=((((((tx nd.path++tx nd.value)++mT nd.owner)++[nd.mode])++vi nd.holders.length)++cat (nd.holders.map mT))++mT nd.aJ)++mT nd.gen:=by
 rw[oO,YL,rh];simp[cat,mT]
def Bn(w0:World)(c1:Array Value)(t1:TypeId)(b2:Nat)(c2:Array Value)(t2:TypeId)(w:World)(v:Value)(l:LI):Prop:=Own w0.heap.size w v l/\Bw w0 w/\w.heap[w0.heap.size]?=some (.cells c1 t1)/\w.heap[b2]?=some (.cells c2 t2)
def Bn.SI{w0 w w':World}(h:Bn w0 c1 t1 b2 c2 t2 w v l)(hb:Bw w w'):Bn w0 c1 t1 b2 c2 t2 w' v l:=⟨Own.below h.1 hb,aj h.2.1 hb,sE h.2.2.1 hb,sE h.2.2.2 hb⟩
def fL{w0 w:World}{rest:List Oper}{o:Oper}{Q:Exit->Act->World->Prop}(mW:o.guard=none){x:Operand}(ho:o.op=.call {callee:=.builtin .append,args:=#[s,x],argTypes:=#[22,22]})(hQ:Hid (Bn w0 c1 t1 b2 c2 t2 w v l))(vr:Hid (lm=l++m))(hk:Hid (m.length=k))(eL:Hid (l.length=L))(hs:a.eval s=v)(hx:a.eval x=.S p k c)(hr:Hid (Rd w (.S p k c) m))(hl:L+k<=4194304)(hK:∀p' c' w' L',Hid (Bn w0 c1 t1 b2 c2 t2 w' (.S p' L' c') lm)->Hid (lm.length=L')->L'<=L+k->wpList prog ops Q rest (a.put o.dst (.S p' L' c')) w')(h1:t1≠5:=by decide)(h2:t2≠5:=by decide):wpList prog ops Q (o::rest) a w:=
 S8 mW ho (af hQ.2.1) vr hk eL (af rfl) hs hx (af hQ.1) hr hl λp' c' w' k1 k2 k3 k4=>hK p' c' w' _ (af ⟨k1,k3,k4 _ _ _ h1 hQ.2.2.1,k4 _ _ _ h2 hQ.2.2.2⟩) k2 ao
def Ta{rest:List Oper}{o:Oper}{Q:Exit->Act->World->Prop}(mW:o.guard=none){x:Operand}(ho:o.op=.call {callee:=.builtin .append,args:=#[s,x],argTypes:=#[22,22]})(hQ:Hid (Bn w0 c1 t1 b2 c2 t2 u v l))(vr:Hid (lm=l++[y]))(eL:Hid (l.length=L))(hs:a.eval s=v)(hx:a.eval x=.T u.heap.size 1 1)(hl:L<4194304)(hK:∀p' c' w' L',Hid (Bn w0 c1 t1 b2 c2 t2 w' (.S p' L' c') lm)->Hid (lm.length=L')->L'<=L+1->wpList prog ops Q rest (a.put o.dst (.S p' L' c')) w')(h1:t1≠5:=by decide)(h2:t2≠5:=by decide):wpList prog ops Q (o::rest) a (u.alloc (.cells #[.int .u8 y] 5)):=
 Ov mW ho (af hQ.2.1) vr eL (af rfl) hs hx (af hQ.1) hl λp' c' w' k1 k2 k3 k4=>hK p' c' w' _ (af ⟨k1,k3,k4 _ _ _ h1 hQ.2.2.1,k4 _ _ _ h2 hQ.2.2.2⟩) k2 ao
def Ku{x:Nat}(he:e<18446744073709551616)(hg:g<18446744073709551616)(hx:x<18446744073709551616){p q:OA}{c n d m:Nat}(en:Hid (ss.length=n))(em:Hid (ns.length=m)){w:World}(h:yL w (.S p n c) ss)(hN:oU w (.S q m d) ns)(HS:Hid (SmW ss ns))(eN:Hid ((xD e g x ss ns).length=N)):Calls prog 41 #[ft e g x t (.S p n c) (.S q m d)] w λr w'=>∃p' c',r=.returned (.S p' N c')/\Own w.heap.size w' (.S p' N c') (xD e g x ss ns)/\Bw w w':=by
 have HR:=af λ(w':World)(hb:Bw w w')=>ah (h.below hb) (hN.below hb);have hn5:n<=51:=by have:=HS.n1;rw[aa en]at this;exact this
 have hm5:m<=201:=by have:=HS.n2;rw[aa em]at this;exact this
 have wn:IntKind.u64.wrap (n:Int)=(n:Int):=by rw[jj];omega
 have wm:IntKind.u64.wrap (m:Int)=(m:Int):=by rw[jj];omega
 obtain⟨M0,f0⟩:∃M,Hid ((vi e).length=M):=⟨_,bq⟩;have hM0:M0<=10:=by have:=(fq e).2;rw[aa f0]at this;exact this
 obtain⟨M1,f1⟩:∃M,Hid ((vi g).length=M):=⟨_,bq⟩;have hM1:M1<=10:=by have:=(fq g).2;rw[aa f1]at this;exact this
 obtain⟨M2,f2⟩:∃M,Hid ((vi x).length=M):=⟨_,bq⟩;have hM2:M2<=10:=by have:=(fq x).2;rw[aa f2]at this;exact this
 obtain⟨M3,f3⟩:∃M,Hid ((vi n).length=M):=⟨_,bq⟩;have hM3:M3<=10:=by have:=(fq n).2;rw[aa f3]at this;exact this
 obtain⟨M5,f5⟩:∃M,Hid ((vi m).length=M):=⟨_,bq⟩;have hM5:M5<=10:=by have:=(fq m).2;rw[aa f5]at this;exact this
 obtain⟨A1,Rc⟩:∃l,Hid (l=vi e++vi g):=⟨_,bq⟩;obtain⟨A2,Uz⟩:∃l,Hid (l=A1++vi x):=⟨_,bq⟩;obtain⟨A3,hA3⟩:∃l,Hid (l=A2++vi n):=⟨_,bq⟩;obtain⟨W,hW⟩:=az (w.alloc (.cells #[.U e,.U g,.U x,.I t,.S p n c,.S q m d] 35));have BW:Hid (Bw w W):=hW▸au.alloc ao _;have KW:Hid (W.heap[w.heap.size]?=some (.cells #[.U e,.U g,.U x,.I t,.S p n c,.S q m d] 35)):=hW▸WJ
 go_in
 go_wp2_with fail;rw[<-hW];refine(pW he f0).mono ?_;rintro z9 y1⟨py1,cy1,rfl,oy1,am1⟩;have By1:=af (aj BW am1);have Ky1:=af (sE KW am1);have Oy1:=af (Own.mono (B':=w.heap.size) oy1 BW.size);have Qy1:Hid (Bn w #[.U e,.U g,.U x,.I t,.S p n c,.S q m d] 35 w.heap.size #[.U e,.U g,.U x,.I t,.S p n c,.S q m d] 35 y1 (.S py1 M0 cy1) (vi e)):=⟨Oy1,By1,Ky1,Ky1⟩;obtain⟨i0,i1,i2,i3,i4,i5⟩:=jO.dJ Qy1.2.2.1;go_wp2_with fail;refine(pW hg f1).mono ?_;rintro z9 y2⟨py2,cy2,rfl,oy2,cu0⟩;have Qy2:=af (Qy1.SI cu0);have Ry2:=af oy2.rd;go_wp2_with(at_builtin;refine fL rfl rfl Qy2 Rc f1 f0 rfl rfl Ry2 ae ?_);intro dz6 dT4 y3 Ly3 Qy3 cC4 dU8;obtain⟨i0,i1,i2,i3,i4,i5⟩:=jO.dJ Qy3.2.2.1;go_wp2_with fail;refine(pW hx f2).mono ?_;rintro z9 y4⟨py4,cy4,rfl,oy4,ct9⟩;have Qy4:=af (Qy3.SI ct9);have Ry4:=af oy4.rd;go_wp2_with(at_builtin;refine fL rfl rfl Qy4 Uz f2 cC4 rfl rfl Ry4 ae ?_);intro dz5 dT3 y5 Ly5 Qy5 cC3 dU7;obtain⟨i0,i1,i2,i3,i4,i5⟩:=jO.dJ Qy5.2.2.1;go_wp2_with fail;refine(pW ae f3).mono ?_;rintro z9 y6⟨py6,cy6,rfl,oy6,ct8⟩;have Qy6:=af (Qy5.SI ct8);have Ry6:=af oy6.rd;go_wp2_with(at_builtin;refine fL rfl rfl Qy6 hA3 f3 cC3 rfl rfl Ry6 ae ?_);intro dz4 dT2 y7 Ly7 Qy7 cC2 dU6;have lA3:Hid (A3.length=Ly7):=cC2;have bA3:Ly7<=40:=ae;obtain⟨i0,i1,i2,i3,i4,i5⟩:=jO.dJ Qy7.2.2.1;go_wp2
 go_loopw[3,4](λov iv wr=>∃(k:Nat)(po:OA)(co L:Nat),k<=n/\ov=.S po L co/\iv=.I k/\L<=40+10*k/\Hid ((A3++cat ((ss.take k).map uE)).length=L)/\Hid (Own w.heap.size wr (.S po L co) (A3++cat ((ss.take k).map uE)))/\Hid (wr.heap[w.heap.size]?=some (.cells #[.U e,.U g,.U x,.I t,.S p n c,.S q m d] 35))/\Hid (Bw w wr)) (λ_ iv _=>n-(intOf iv).toNat)
 exact⟨0,_,_,_,fN _,rfl,rfl,ae,(by show _=_;simp only[sg,DX,vU,D5];exact aa lA3),(by show Own _ _ _ _;simp only[sg,DX,vU,D5];exact Qy7.1),Qy7.2.2.1,Qy7.2.1⟩;{
 obtain⟨k,po,co,L,hk,rfl,rfl,hLk,eL,Or,Kr,Br⟩:=hrel;by_cases aT:k<n;{
 have bu:=aS k n;have fh:k<ss.length:=aa en▸aT;obtain⟨sk0,hy⟩:=mR fh;have hi:=HS.s _ (aY hy);obtain⟨v,ev⟩:∃v:Nat,sk0.1=(v:Int):=⟨sk0.1.toNat,ae⟩;obtain⟨b,o,rfl,wF⟩:∃b o,p=some (Ad b o)/\wr.cell? (Ad b (o+k*3))=some (.U v):=by obtain⟨p',c',evv,hd⟩:=(aa HR _ Br).1;obtain⟨rfl,-,-⟩:=js evv;rcases hd with h0|⟨b,o,h1,h2⟩;{rw[h0]at fh;simp at fh};{exact⟨b,o,h1,by rw[<-ev];exact(h2 k _ hy).1⟩}
 rw[ev]at hi;have eS:Hid (uE sk0=vi v):=by show _=_;rw[uE,ev];rfl
 obtain⟨M,eM⟩:∃M,Hid ((vi v).length=M):=⟨_,bq⟩;have hM:M<=10:=by have:=(fq v).2;rw[aa eM]at this;exact this
 obtain⟨A,hA⟩:∃A,Hid (A=A3++cat ((ss.take k).map uE)):=⟨_,bq⟩;rw[<-aa hA]at eL Or;obtain⟨AA,hAA⟩:∃l,Hid (l=A++vi v):=⟨_,bq⟩;have EA:Hid (A3++cat ((ss.take (k+1)).map uE)=AA):=by show _=_;rw[aa hAA,aa hA,ru uE hy,aa eS,sU]
 have wk:IntKind.i64.wrap ((k:Int)+1)=((k+1:Nat):Int):=by rw[jL _ ae];omega
 have Qr:=af (show Bn w _ _ w.heap.size _ _ _ _ _ from⟨Or,Br,Kr,Kr⟩);obtain⟨i0,i1,i2,i3,i4,i5⟩:=jO.dJ Kr;go_wp2_with fail;refine(pW ae eM).mono ?_;rintro z9 y8⟨py8,cy8,rfl,oy8,ct7⟩;have Qy8:=af (Qr.SI ct7);have Ry8:=af oy8.rd;go_wp2_with(at_builtin;refine fL rfl rfl Qy8 hAA eM eL rfl rfl Ry8 ae ?_);intro dz3 dT1 y9 Ly9 Qy9 cC1 dU5;obtain⟨i0,i1,i2,i3,i4,i5⟩:=jO.dJ Qy9.2.2.1;go_wp2;go_roundw;exact⟨k+1,_,_,_,ae,rfl,by go_num,ae,(aa EA▸cC1),(aa EA▸Qy9.1),Qy9.2.2.1,Qy9.2.1⟩;exact bM};{
 have bu:=dm k n;have yx:n=k:=ae;subst yx;rw[ke (aa en▸iP _)]at eL Or;obtain⟨A4,hA4⟩:∃A,Hid (A=A3++cat (ss.map uE)):=⟨_,bq⟩;rw[<-aa hA4]at eL Or;obtain⟨A5,hA5⟩:∃A,Hid (A=A4++vi m):=⟨_,bq⟩;have Qr:=af (show Bn w _ _ w.heap.size _ _ _ _ _ from⟨Or,Br,Kr,Kr⟩);obtain⟨i0,i1,i2,i3,i4,i5⟩:=jO.dJ Kr;go_wp2_with fail;refine(pW ae f5).mono ?_;rintro z9 y10⟨dz0,dS9,rfl,ci5,bD3⟩;have cI7:=af (Qr.SI bD3);have cH5:=af ci5.rd;go_wp2_with(at_builtin;refine fL rfl rfl cI7 hA5 f5 eL rfl rfl cH5 ae ?_);intro cS9 di0 y11 cJ1 aL3 bK5 dj6;have bA5:cJ1<=600:=ae;have EN:Hid (xD e g x ss ns=A5++cat (ns.map oO)):=by show _=_;rw[aW2,aa hA5,aa hA4,aa hA3,aa Uz,aa Rc,aa en,aa em]
 obtain⟨i0,i1,i2,i3,i4,i5⟩:=jO.dJ aL3.2.2.1;go_wp2
 go_loopw[3,5](λov iv wr=>∃(k:Nat)(po:OA)(co L:Nat),k<=m/\ov=.S po L co/\iv=.I k/\L<=600+800*k/\Hid ((A5++cat ((ns.take k).map oO)).length=L)/\Hid (Own w.heap.size wr (.S po L co) (A5++cat ((ns.take k).map oO)))/\Hid (wr.heap[w.heap.size]?=some (.cells #[.U e,.U g,.U x,.I t,.S p n c,.S q m d] 35))/\Hid (Bw w wr)) (λ_ iv _=>m-(intOf iv).toNat)
 exact⟨0,_,_,_,fN _,rfl,rfl,ae,(by show _=_;simp only[sg,DX,vU,D5];exact aa bK5),(by show Own _ _ _ _;simp only[sg,DX,vU,D5];exact aL3.1),aL3.2.2.1,aL3.2.1⟩;{
 obtain⟨k,po,co,L,hk,rfl,rfl,hLk,eL,Or,Kr,Br⟩:=hrel;by_cases aT:k<m;{
 have bu:=aS k m;have fh:k<ns.length:=aa em▸aT;obtain⟨nd,hy⟩:=mR fh;have hi:=HS.d nd (aY hy);have hlen:=(Mh HS nd (aY hy)).1;obtain⟨b,o,rfl,PP,PV,PH,PU,YT⟩:∃b o,q=some (Ad b o)/\∃P V H U,rG w b (o+k*8) nd P V H U:=by obtain⟨p',c',ev,hd⟩:=(aa HR _ au).2;obtain⟨rfl,-,-⟩:=js ev;rcases hd with h0|⟨b,o,h1,h2⟩;{rw[h0]at fh;simp at fh};{exact⟨b,o,h1,h2 k _ hy⟩}
 obtain⟨P,eP⟩:=aI nd.path;obtain⟨V,eV⟩:=aI nd.value;obtain⟨H,eH⟩:=aI nd.holders;obtain⟨pA,cA,nA,rfl,eA⟩:=YT.r0.iK;obtain⟨pB,cB,nB,rfl,eB⟩:=YT.r1.iK;obtain⟨pD,cD,nD,rfl,eD⟩:=YT.r4.iK;obtain⟨pU,cU,nU,rfl,-⟩:=YT.r7.iK;obtain⟨wF,iW,ku,Ho,Og,Dz,yh,hc7,-⟩:=YT.below Br;obtain⟨-,-,-,-,-,-,-,-,q0,q1,q4,-,-⟩:=YT;rw[eP]at q0;rw[eV]at q1;rw[eH]at q4;have QQ:=af λ(w':World)(hb:Bw w w')=>ah (q0.below hb) (ah (q1.below hb) (q4.below hb));obtain⟨⟨j1,j2,j3⟩,j4,j5,j6,j7,j8⟩:=hi;rw[aa eA]at j1;rw[aa eB]at j2;rw[aa eD]at j3;have J8:=af j8;obtain⟨ow,Y9⟩:∃v:Nat,nd.owner=(v:Int):=⟨nd.owner.toNat,ae⟩;obtain⟨ep,eep⟩:∃v:Nat,nd.aJ=(v:Int):=⟨nd.aJ.toNat,ae⟩;obtain⟨ge,ege⟩:∃v:Nat,nd.gen=(v:Int):=⟨nd.gen.toNat,ae⟩;obtain⟨mo,emo⟩:∃v:Int,nd.mode=v:=⟨_,rfl⟩;rw[Y9]at ku j5;rw[eep]at Dz j6;rw[ege]at yh j7;rw[emo]at Ho j4;rw[eP]at eA;rw[eV]at eB;rw[eH]at eD J8;have EB:Hid (oO nd=((((((tx P++tx V)++vi ow)++[mo])++vi nD)++cat (H.map mT))++vi ep)++vi ge):=by show _=_;rw[aY0,Y9,eep,ege,emo,eP,eV,eH,mT,mT,mT,aa eD];rfl
 have HY:=af hy;have wmo:IntKind.u8.wrap mo=mo:=by rw[Ai];omega
 have wh:IntKind.u64.wrap (nD:Int)=(nD:Int):=by rw[jj];omega
 have wk:IntKind.i64.wrap ((k:Int)+1)=((k+1:Nat):Int):=by rw[jL _ ae];omega
 obtain⟨T0,t0⟩:∃M,Hid ((tx P).length=M):=⟨_,bq⟩;obtain⟨T1,t1⟩:∃M,Hid ((tx V).length=M):=⟨_,bq⟩;have bT0:T0<=146:=by have:=(uz P).2;rw[aa t0,aa eA]at this;omega
 have bT1:T1<=51:=by have:=(uz V).2;rw[aa t1,aa eB]at this;omega
 obtain⟨G0,g0⟩:∃M,Hid ((vi ow).length=M):=⟨_,bq⟩;have hG0:G0<=10:=by have:=(fq ow).2;rw[aa g0]at this;exact this
 obtain⟨G1,g1⟩:∃M,Hid ((vi nD).length=M):=⟨_,bq⟩;have hG1:G1<=10:=by have:=(fq nD).2;rw[aa g1]at this;exact this
 obtain⟨G2,g2⟩:∃M,Hid ((vi ep).length=M):=⟨_,bq⟩;have hG2:G2<=10:=by have:=(fq ep).2;rw[aa g2]at this;exact this
 obtain⟨G3,g3⟩:∃M,Hid ((vi ge).length=M):=⟨_,bq⟩;have hG3:G3<=10:=by have:=(fq ge).2;rw[aa g3]at this;exact this
 obtain⟨C,hC⟩:∃A,Hid (A=A5++cat ((ns.take k).map oO)):=⟨_,bq⟩;rw[<-aa hC]at eL Or;obtain⟨C1,hC1⟩:∃l,Hid (l=C++tx P):=⟨_,bq⟩;obtain⟨C2,hC2⟩:∃l,Hid (l=C1++tx V):=⟨_,bq⟩;obtain⟨C3,hC3⟩:∃l,Hid (l=C2++vi ow):=⟨_,bq⟩;obtain⟨C4,hC4⟩:∃l,Hid (l=C3++[mo]):=⟨_,bq⟩;obtain⟨C5,hC5⟩:∃l,Hid (l=C4++vi nD):=⟨_,bq⟩;obtain⟨C6,hC6⟩:∃l,Hid (l=C5++cat (H.map mT)):=⟨_,bq⟩;obtain⟨C7,hC7⟩:∃l,Hid (l=C6++vi ep):=⟨_,bq⟩;obtain⟨C8,hC8⟩:∃l,Hid (l=C7++vi ge):=⟨_,bq⟩;have EC:Hid (A5++cat ((ns.take (k+1)).map oO)=C8):=by show _=_;rw[ru oO (aa HY),aa EB,aa hC8,aa hC7,aa hC6,aa hC5,aa hC4,aa hC3,aa hC2,aa hC1,aa hC];simp only[sU]
 have Qr:=af (show Bn w _ _ w.heap.size _ _ _ _ _ from⟨Or,Br,Kr,Kr⟩);obtain⟨i0,i1,i2,i3,i4,i5⟩:=jO.dJ Kr;go_wp2_with fail;obtain⟨X,hX⟩:=az (wr.alloc (.cells #[.S pA nA cA,.S pB nB cB,.U ow,.I mo,.S pD nD cD,.U ep,.U ge,.S pU nU cU] 119));have MT:=ew hX;obtain⟨nb,hnb⟩:=az wr.heap.size;have NX:Hid (X.heap[nb]?=some (.cells #[.S pA nA cA,.S pB nB cB,.U ow,.I mo,.S pD nD cD,.U ep,.U ge,.S pU nU cU] 119)):=by rw[hX,hnb];exact WJ
 have OX:=af (Own.below Or MT);have BX:=af (aj Br MT);have KX:=af (sE Kr MT);rw[<-hX,<-hnb];clear hX MT Or Br Kr hnb;have QX:=af (show Bn w _ _ nb _ _ _ _ _ from⟨OX,BX,KX,NX⟩);refine(ta eA (aa QQ _ BX).1 ae t0).mono ?_;rintro z9 y12⟨dy9,dS8,rfl,ci4,bD2⟩;have cI6:=af (QX.SI bD2);have cH4:=af ci4.rd;go_wp2_with(at_builtin;refine fL rfl rfl cI6 hC1 t0 eL rfl rfl cH4 ae ?_);intro cS8 dh9 y13 dZ3 aL2 bK4 dj5;obtain⟨i0,i1,i2,i3,i4,i5⟩:=jO.dJ aL2.2.2.1;obtain⟨a0,a1,a2,a3,a4,a5,a6,a7⟩:=NU.dJ aL2.2.2.2;go_wp2_with fail;refine(ta eB (aa QQ _ aL2.2.1).2.1 ae t1).mono ?_;rintro z9 y14⟨dy8,dS7,rfl,ci3,bD1⟩;have cI5:=af (aL2.SI bD1);have cH3:=af ci3.rd;go_wp2_with(at_builtin;refine fL rfl rfl cI5 hC2 t1 bK4 rfl rfl cH3 ae ?_);intro cS7 dh8 y15 dZ2 bj1 bK3 dj4;obtain⟨i0,i1,i2,i3,i4,i5⟩:=jO.dJ bj1.2.2.1;obtain⟨a0,a1,a2,a3,a4,a5,a6,a7⟩:=NU.dJ bj1.2.2.2;go_wp2_with fail;refine(pW ae g0).mono ?_;rintro z9 y16⟨dy7,dS6,rfl,ci2,bD0⟩;have cI4:=af (bj1.SI bD0);have cH2:=af ci2.rd;go_wp2_with(at_builtin;refine fL rfl rfl cI4 hC3 g0 bK3 rfl rfl cH2 ae ?_);intro cS6 dh7 y17 dZ1 bj0 bK2 dj3;obtain⟨i0,i1,i2,i3,i4,i5⟩:=jO.dJ bj0.2.2.1;obtain⟨a0,a1,a2,a3,a4,a5,a6,a7⟩:=NU.dJ bj0.2.2.2;go_wp2_with(at_builtin;refine Ta rfl rfl bj0 hC4 bK2 rfl rfl ae ?_);intro cS5 dh6 y18 dZ0 bi9 bK1 dj2;obtain⟨i0,i1,i2,i3,i4,i5⟩:=jO.dJ bi9.2.2.1;obtain⟨a0,a1,a2,a3,a4,a5,a6,a7⟩:=NU.dJ bi9.2.2.2;go_wp2_with fail;refine(pW ae g1).mono ?_;rintro z9 y19⟨dy6,dS5,rfl,ci1,bC9⟩;have cI3:=af (bi9.SI bC9);have cH1:=af ci1.rd;go_wp2_with(at_builtin;refine fL rfl rfl cI3 hC5 g1 bK1 rfl rfl cH1 ae ?_);intro cS3 dh5 y20 cJ0 Yz bK0 dj1;obtain⟨i0,i1,i2,i3,i4,i5⟩:=jO.dJ Yz.2.2.1;obtain⟨a0,a1,a2,a3,a4,a5,a6,a7⟩:=NU.dJ Yz.2.2.2;go_wp2
 go_loopw[3,7](λov kv wr=>∃(j:Nat)(po:OA)(co L:Nat),j<=nD/\ov=.S po L co/\kv=.I j/\L<=cJ0+10*j/\Hid ((C5++cat ((H.take j).map mT)).length=L)/\Hid (Own w.heap.size wr (.S po L co) (C5++cat ((H.take j).map mT)))/\Hid (wr.heap[w.heap.size]?=some (.cells #[.U e,.U g,.U x,.I t,.S p n c,.S (some (Ad b o)) m d] 35))/\Hid (wr.heap[nb]?=some (.cells #[.S pA nA cA,.S pB nB cB,.U ow,.I mo,.S pD nD cD,.U ep,.U ge,.S pU nU cU] 119))/\Hid (Bw w wr)) (λ_ kv _=>nD-(intOf kv).toNat)
 exact⟨0,_,_,_,fN _,rfl,rfl,ae,(by show _=_;simp only[sg,DX,vU,D5];exact aa bK0),(by show Own _ _ _ _;simp only[sg,DX,vU,D5];exact Yz.1),Yz.2.2.1,Yz.2.2.2,Yz.2.1⟩;{
 obtain⟨j,pr,cr,Lr,hj,rfl,rfl,hLj,eLr,Or,Kr,Nr,Br⟩:=hrel;by_cases hlj:j<nD;{
 have cp6:=aS j nD;have Ck:j<H.length:=aa eD▸hlj;obtain⟨iv,hy⟩:=mR Ck;have hi:=aa J8 iv (aY hy);obtain⟨v,rfl⟩:∃v:Nat,iv=(v:Int):=⟨iv.toNat,ae⟩;obtain⟨b',o',rfl,hc⟩:∃b o,pD=some (Ad b o)/\wr.cell? (Ad b (o+j))=some (.U v):=by obtain⟨p',c',ev,hd⟩:=(aa QQ _ Br).2.2;obtain⟨rfl,-,-⟩:=js ev;rcases hd with h0|⟨b,o,h1,h2⟩;{rw[h0]at Ck;simp at Ck};{refine⟨b,o,h1,?_⟩;have:=h2 j Ck;rw[gK,hy,si]at this;exact this}
 obtain⟨M,eM⟩:∃M,Hid ((vi v).length=M):=⟨_,bq⟩;have hM:M<=10:=by have:=(fq v).2;rw[aa eM]at this;exact this
 obtain⟨A,hA⟩:∃A,Hid (A=C5++cat ((H.take j).map mT)):=⟨_,bq⟩;rw[<-aa hA]at eLr Or;obtain⟨AA,hAA⟩:∃l,Hid (l=A++vi v):=⟨_,bq⟩;have EA:Hid (C5++cat ((H.take (j+1)).map mT)=AA):=by show _=_;rw[aa hAA,aa hA,ru mT hy,sU];rfl
 have wj:IntKind.i64.wrap ((j:Int)+1)=((j+1:Nat):Int):=by rw[jL _ ae];omega
 have Qr:=af (show Bn w _ _ nb _ _ _ _ _ from⟨Or,Br,Kr,Nr⟩);obtain⟨i0,i1,i2,i3,i4,i5⟩:=jO.dJ Kr;obtain⟨a0,a1,a2,a3,a4,a5,a6,a7⟩:=NU.dJ Nr;go_wp2_with fail;refine(pW ae eM).mono ?_;rintro z9 y21⟨dy5,dS4,rfl,ci0,bC8⟩;have cI2:=af (Qr.SI bC8);have cH0:=af ci0.rd;go_wp2_with(at_builtin;refine fL rfl rfl cI2 hAA eM eLr rfl rfl cH0 ae ?_);intro cS2 dh4 y22 dY9 Yy bJ9 dj0;obtain⟨i0,i1,i2,i3,i4,i5⟩:=jO.dJ Yy.2.2.1;obtain⟨a0,a1,a2,a3,a4,a5,a6,a7⟩:=NU.dJ Yy.2.2.2;go_wp2;go_roundw;exact⟨j+1,_,_,_,ae,rfl,by go_num,ae,(aa EA▸bJ9),(aa EA▸Yy.1),Yy.2.2.1,Yy.2.2.2,Yy.2.1⟩;exact bM};{
 have cp6:=dm j nD;have ejn:nD=j:=ae;rw[ke (by rw[aa eD];omega)]at eLr Or;rw[<-aa hC6]at eLr Or;have Qr:=af (show Bn w _ _ nb _ _ _ _ _ from⟨Or,Br,Kr,Nr⟩);obtain⟨i0,i1,i2,i3,i4,i5⟩:=jO.dJ Kr;obtain⟨a0,a1,a2,a3,a4,a5,a6,a7⟩:=NU.dJ Nr;go_wp2_with fail;refine(pW ae g2).mono ?_;rintro z9 y23⟨dy4,dS3,rfl,ch9,bC7⟩;have cI1:=af (Qr.SI bC7);have cG9:=af ch9.rd;go_wp2_with(at_builtin;refine fL rfl rfl cI1 hC7 g2 eLr rfl rfl cG9 ae ?_);intro cS1 dh3 y24 dY8 bi8 bJ8 di9;obtain⟨i0,i1,i2,i3,i4,i5⟩:=jO.dJ bi8.2.2.1;obtain⟨a0,a1,a2,a3,a4,a5,a6,a7⟩:=NU.dJ bi8.2.2.2;go_wp2_with fail;refine(pW ae g3).mono ?_;rintro z9 y25⟨dy3,dS2,rfl,ch8,bC6⟩;have cI0:=af (bi8.SI bC6);have cG8:=af ch8.rd;go_wp2_with(at_builtin;refine fL rfl rfl cI0 hC8 g3 bJ8 rfl rfl cG8 ae ?_);intro cS0 dh2 y26 dY7 at2 bJ7 di8;obtain⟨i0,i1,i2,i3,i4,i5⟩:=jO.dJ at2.2.2.1;obtain⟨a0,a1,a2,a3,a4,a5,a6,a7⟩:=NU.dJ at2.2.2.2;go_wp2;go_roundw;exact⟨k+1,_,_,_,ae,rfl,by go_num,ae,(aa EC▸bJ7),(aa EC▸at2.1),at2.2.2.1,at2.2.1⟩
 case measure=>simp[intOf];omega}}}
 {have bu:=dm k m;have ekm:m=k:=ae;subst ekm;rw[ke (aa em▸iP _),<-aa EN]at eL Or;have eLN:L=N:=eL.symm.trans eN;subst eLN;have Qr:=af (show Bn w _ _ w.heap.size _ _ _ _ _ from⟨Or,Br,Kr,Kr⟩);obtain⟨i0,i1,i2,i3,i4,i5⟩:=jO.dJ Kr;go_wp2;go_ret;exact⟨po,co,rfl,Or,Br⟩}}}}
def Il:Option ((Int×Int×Int)×List aP×List aC)->sF
 |none=>im
 |some r=>⟨r.1.1,r.1.2.1,r.1.2.2,0,r.2.1,r.2.2⟩
def Im:Option ((Int×Int×Int)×List aP×List aC)->Int
 |none=>13
 |some _=>0
def uK{c n:Nat}(en:Hid (l.length=n)){w:World}(h:Rd w (.S p n c) l)(hb:Hid (aN l))(hl:Mg n)(hs:Hid (ki n l om)){a:Int}(ea:Hid (nG n om=a))(e:Hid (oV om=(x,EF)))(ea':Hid (nG n EF=a')):Cp 66 #[.S p n c,.I a] w λe w'=>e=.returned (.tuple #[.U x,.I a'])/\w'=w:=by
 have e1:=aa ea;have e2:=aa ea';subst e1 e2;exact BJ en h hb hl hs e
def bu2{c n:Nat}(en:Hid (l.length=n)){w:World}(h:Rd w (.S p n c) l)(hb:Hid (aN l))(hl:Mg n)(hs:Hid (ki n l om)){a:Int}(ea:Hid (nG n om=a))(e:Hid (oB om=(x,EF)))(ea':Hid (nG n EF=a')):Cp 68 #[.S p n c,.I a] w λe w'=>e=.returned (.tuple #[.I x,.I a'])/\w'=w:=by
 have e1:=aa ea;have e2:=aa ea';subst e1 e2;exact pI en h hb hl hs e
def aN0{c n:Nat}(en:Hid (l.length=n)){w:World}(h:Rd w (.S p n c) l)(hb:Hid (aN l))(hl:Mg n)(xq:n<=c)(hs:Hid (ki n l om)){a:Int}(ea:Hid (nG n om=a)){x:LI}(e:Hid (oT om=(x,EF)))(ea':Hid (nG n EF=a'))(eN:Hid (x.length=N)):Cp 67 #[.S p n c,.I a] w λe w'=>∃p' c',e=.returned (.tuple #[.S p' N c',.I a'])/\Own w.heap.size w' (.S p' N c') x/\Bw w w':=by
 have e1:=aa ea;have e2:=aa ea';subst e1 e2;exact pG en h hb hl xq hs e eN
theorem Ff{n:Nat}(hs:ki n l om):(nG n om<0↔om=none)/\nG n om<=n/\-1<=nG n om:=by
 cases om with
 |none=>simp[nG]
 |some m=>
  have:=(hs m rfl).1;simp only[nG];refine⟨⟨λh=>ae,λh=>by cases h⟩,ae,ae⟩
def NC{w u:World}(h:Bw w u){o:Obj}:Bw w (u.alloc o):=h.alloc h.size o
def OwnT.app{α:Type}{el:World->α->List Value->List Lf->Prop}{sz B:Nat}{V:World}{xs:List α}{x:α}{c:List Value}{l:List Lf}(h:OwnT el ty sz B V v xs Ls)(cX:∀w w' x c l,el w x c l->(∀a∈l,w'.heap[a.b]?=w.heap[a.b]?)->el w' x c l)(hb:Bw V V3)(hx:el V3 x c l)(hc:c.length=sz)(hA:nI V.heap.size V3 l)(hB:B<=V.heap.size):∃row,V3.ownsRow B ty sz v xs.length row/\∀v' w9,w9.ownsRow B ty sz v' (xs.length+1) (row++c)->V3.grownBy w9 v.ownBlock->(∀g,v'.ownBlock=some g->v.ownBlock=some g\/V3.heap.size<=g)→
   OwnT el ty sz B w9 v' (xs++[x]) (Ls++[l])/\∃p c',v'=.S p (xs.length+1) c':=by
 have hl:=h.lt;obtain⟨cs,g1,g2,g3,g4,g5,g6,g7⟩:=h.below cX hb;refine⟨cs.flatten,g4,λv' w9 du hg mX=>?_⟩;have sn:=OwnT.snoc g1 g2 g3 g5 g6 g7 cX hx hc hA hB (λa ha=>(hl.2 a ha).2) (λb hb=>(hl.1 b hb).2) du hg mX;refine⟨sn,?_⟩;obtain⟨p,c',e,-⟩:=sn.read;rw[ir]at e;exact⟨p,c',e⟩
def OwnT.aa0{α:Type}{el:World->α->List Value->List Lf->Prop}{sz B sb:Nat}{w:World}{xs:List α}(h:OwnT el ty sz B w v xs Ls)(cX:∀w w' x c l,el w x c l->(∀a∈l,w'.heap[a.b]?=w.heap[a.b]?)->el w' x c l)(hs:sb<B)(j:Nat)(u:Value):OwnT el ty sz B (w.setCell (Ad sb j) u) v xs Ls:=
 h.keep (cX _ _) ai (λb hb=>fW _ _ _ _ (by have:=(h.lt.1 b hb).1;simp;omega)) (λa ha=>fW _ _ _ _ (by have:=(h.lt.2 a ha).1;simp;omega))
def lp.id(w:World)(i:Int):lp w (Sq i) [.U i,.I 0,.S none 0 0] []:=⟨none,0,rfl,⟨none,0,rfl,.inl rfl⟩,⟨none,0,[],rfl,rfl,rfl,.inl rfl⟩⟩
def oQ{w:World}{cs:List Value}{t:TypeId}:∀j u,cs[j]?=some u->(w.alloc (.cells cs.toArray t)).cell? (Ad w.heap.size j)=some u:=λj u hu=>(al.alloc w cs.toArray t).1 j u (by simpa using hu)
theorem JP(h:fM k o=none):∀j,k<=j->fM j o=none:=by
 intro j hj
 induction j with
 |zero=>rw[show k=0 by omega]at h;exact h
 |succ j ih=>
  by_cases e:k=j+1;{rw[<-e];exact h};{rw[fM,ih ae];rfl}
def O0(h:fM k o=some (ns,om))(h2:px om=some (nd,EF)):fM (k+1) o=some (ns++[nd],EF):=by
 rw[fM,h];simp only[Aa,h2,Jg]
def CG(h:fM k o=some (ns,om))(h2:px om=none):fM (k+1) o=none:=by
 rw[fM,h];simp only[Aa,h2,Option.map_none]
def jX.snoc{w:World}(hk:l.length=k)(h:w.ownsRow B 31 1 v (k+1) (l.map (Value.int .u64)++[.U d])):jX B w v (l++[d]):=by
 unfold jX;rw[ir,kT,hk];exact h
def PU.nil(w:World)(M N:Nat):PU w M N (.S none 0 0) [] []:=⟨⟨none,0,rfl,.inl rfl⟩,⟨none,0,[],rfl,rfl,rfl,.inl rfl⟩,nI.nil _ _,λa ha=>by simp at ha⟩
def qP.keep{w w':World}{n:Nat}(h:qP w R m n sh)(hk:∀b,b<=R->w'.heap[b]?=w.heap[b]?):qP w' R m n sh:=by
 obtain⟨h1,h2,p,c,⟨h3,h4⟩,h5,h6⟩:=h;have e:=aF (hk R ao);refine⟨h1,λo=>(sj (hk R ao)).trans (h2 o),p,c,⟨(e 0).trans h3,(e 1).trans h4⟩,?_,h6⟩;rcases h5 with h5|⟨b,o,hb,hp,h5⟩;{exact .inl h5};{exact .inr ⟨b,o,hb,hp,λi hi=>(aF (hk b ae) _).trans (h5 i hi)⟩}
def qP.below{w w':World}{n:Nat}(h:qP w R m n sh)(hb:Below B w w')(hR:R<B):qP w' R m n sh:=h.keep λb hbR=>hb.block b (by omega)
def Kept.U6{w w':World}(h:Kept [blk R] w w')(hb:b<w.heap.size)(cg:b≠R):w'.heap[b]?=w.heap[b]?:=h.block b hb λv hv e=>by
 simp only[nW]at hv;subst hv;simp[Value.ownBlock]at e;exact cg e.symm
def jX.dh{w w':World}(h:jX B w v l)(hk:Kept [blk R] w w')(hR:R<B):jX B w' v l:=by
 refine⟨h.1,?_⟩;rcases h.2 with hn|⟨g,cap,cur,rfl,hb,hg,rest⟩;{exact .inl hn};{exact .inr ⟨g,cap,cur,rfl,hb,(hk.U6 (Gq.1 hg).1 ae).trans hg,rest⟩}
def OwnT.dh{α:Type}{el:World->α->List Value->List Lf->Prop}{sz B R:Nat}{w w':World}{xs:List α}(h:OwnT el ty sz B w v xs Ls)(cX:∀w w' x c l,el w x c l->(∀a∈l,w'.heap[a.b]?=w.heap[a.b]?)->el w' x c l)(hk:Kept [blk R] w w')(hR:R<B):OwnT el ty sz B w' v xs Ls:=
 h.keep (cX _ _) hk.size (λb hb=>hk.U6 (h.lt.1 b hb).2 (aG (h.lt.1 b hb).1)) (λa ha=>hk.U6 (h.lt.2 a ha).2 (aG (h.lt.2 a ha).1))
def OwnT.cF5{α:Type}{el:World->α->List Value->List Lf->Prop}{sz B M:Nat}{xs:List α}{x:α}{c:List Value}{l:List Lf}(h:OwnT el ty sz B V3 v xs Ls)(cX:∀w w' x c l,el w x c l->(∀a∈l,w'.heap[a.b]?=w.heap[a.b]?)->el w' x c l)(hx:el V3 x c l)(hc:c.length=sz)(hA:nI M V3 l)(hB:B<=M)(hM:∀a∈Ls.flatten,a.b<M)(hvM:∀b,v.ownBlock=some b->b<M):∃row,V3.ownsRow B ty sz v xs.length row/\∀v' w9,w9.ownsRow B ty sz v' (xs.length+1) (row++c)->V3.grownBy w9 v.ownBlock->(∀g,v'.ownBlock=some g->v.ownBlock=some g\/V3.heap.size<=g)→
   OwnT el ty sz B w9 v' (xs++[x]) (Ls++[l])/\∃p c',v'=.S p (xs.length+1) c':=by
 obtain⟨cs,g1,g2,g3,g4,g5,g6,g7⟩:=h;refine⟨cs.flatten,g4,λv' w9 du hg mX=>?_⟩;have sn:=OwnT.snoc g1 g2 g3 g5 g6 g7 cX hx hc hA hB hM hvM du hg mX;refine⟨sn,?_⟩;obtain⟨p,c',e,-⟩:=sn.read;rw[ir]at e;exact⟨p,c',e⟩
def PB.dh{w w':World}(h:PB w M N v xs A)(hk:Kept [blk R] w w')(hR:R<M):PB w' M N v xs A:=
 have k:∀a∈A,w'.heap[a.b]?=w.heap[a.b]?:=λa ha=>hk.U6 (h.ap.uV.lt ha) (aG (h.ap.lo a ha))
 ⟨h.rd.dR h.lv k,h.cap,h.lv,h.ap.keep k,h.hi⟩
def PU.dh{w w':World}(h:PU w M N v xs A)(hk:Kept [blk R] w w')(hR:R<M):PU w' M N v xs A:=
 have k:∀a∈A,w'.heap[a.b]?=w.heap[a.b]?:=λa ha=>hk.U6 (h.ap.uV.lt ha) (aG (h.ap.lo a ha))
 ⟨h.rd.dR h.lv k,h.lv,h.ap.keep k,h.hi⟩
def al.dh{w w':World}(h:al w b vs)(hk:Kept [blk R] w w')(hb:b<w.heap.size)(cg:b≠R):al w' b vs:=
 ⟨λi v hi=>(aF (hk.U6 hb cg) _).trans (h.1 i v hi),λo=>(sj (hk.U6 hb cg)).trans (h.2 o)⟩
def Kept.M6{w w1 w2:World}{row:Option Nat}(h:Kept [blk R] w w1)(hg:w1.grownBy w2 row)(hr:∀k,row=some k->w.heap.size<=k):Kept [blk R] w w2:=
 ⟨hg.os.trans h.os,hg.tape.trans h.tape,hg.output.trans h.output,dQ h.size hg.size,λk hk hv=>(hg.block k (gQ hk h.size) (λe=>aG (hr k e.symm))).trans (h.block k hk hv)⟩
def Kept.tS{w w1:World}(h:Kept [blk R] w w1){a:Addr}(ha:w.heap.size<=a.block)(v:Value):Kept [blk R] w (w1.setCell a v):=
 h.M6 (aE w1 a v) λk e=>by cases e;exact ha
def Pd{n:Nat}{w:World}(h:qP w R m n sh)(hR:R<w.heap.size)(hb:aN m)(hl:Mg n){m':LI}{sh':Bool}(e:Hid (jF (m,sh)=(x,m',sh'))):Calls prog 139 #[.pointer (some (Ad R 0))] w λe w'=>e=.returned (.agg #[.U x,.I 0,.S none 0 0])/\qP w' R m' m'.length sh'/\Kept [blk R] w w':=by
 obtain⟨W,hW⟩:=az (w.alloc (.cells #[.U 0,.I 0,.S none 0 0] 84));have bW:=ew hW;have hC:al W w.heap.size [.U 0,.I 0,.S none 0 0]:=by rw[hW];exact al.alloc w #[.U 0,.I 0,.S none 0 0] _
 have zW:W.heap.size=w.heap.size+1:=by rw[hW];simp
 go_in
 go_wp2_with fail;rw[<-hW];clear hW;refine(fu (h.below bW hR) hb hl e).mono ?_;rintro r w1⟨rfl,rr,la⟩;have C1:=hC.dh la ae ae;have KK:=af ((Kept.dY (vs:=[blk R]) bW).trans la);have DQ:=af rr;have r0:=C1.1 0 _ rfl;have r1:=C1.1 1 _ rfl;have r2:=C1.1 2 _ rfl;have rf:=C1.2;clear hC la rr C1 h;go_wp2;refine dD (v:=.agg #[.U x,.I 0,.S none 0 0]) (by simp[results,results139,go_sem,r0,r1,r2]) rfl ⟨rfl,?_,?_⟩;{exact DQ.keep λb hb=>by iterate 3 rw[fW _ _ _ _ aU]}
 {exact((KK.tS ai _).tS ai _).tS ai _}
end Go.Proofs.YtkakbcaiplggiaaGreatDoor
