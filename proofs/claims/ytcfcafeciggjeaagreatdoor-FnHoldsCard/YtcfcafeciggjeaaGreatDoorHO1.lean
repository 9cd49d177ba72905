import Derived.Test.YtcfcafeciggjeaaGreatDoorHOa
import Derived.Great.BuildSlice
import Derived.Deep.CutBlock
namespace Go.Proofs.YtcfcafeciggjeaaGreatDoor
set_option maxHeartbeats 12800000
set_option linter.all false
set_option maxRecDepth 100000
open Go.ChangeShapes Go.WideShapes Go.ChangeAt Go.RowKit Go.Deep
variable {B:Nat} {a:Act} {o:Oper} {ops:Array Oper} {w w':World}
theorem Tryz.infoOp:(Tryz.prog.info? 29).map (fun i=>(i.zero,i.size,i.bytes))=some (some (.agg #[.I 0,.U 0,.S none 0 0,.I 0,.S none 0 0,.U 0,.U 0]),7,88):=by kernel_rfl
structure LK where
 S:Int
 pp:Option Addr
 cp:Nat
 P:List Int
 pq:Option Addr
 cv:Nat
 V:List Int
 E:Int
 G:Int
def LK.cs (x:LK):List Value:=[.I 8,.U x.S,.S x.pp x.P.length x.cp,.I 1,.S x.pq x.V.length x.cv,.U x.E,.U x.G]
def bb7 (_:World) (x:LK) (c:List Value):Prop:=c=x.cs
structure LkG (w:World) (x:LK):Prop where
 s:0<=x.S/\x.S<18446744073709551616
 p:bM x.P
 v:bM x.V
 pl:x.P.length<=1048576
 vl:x.V.length<=1048576
 rp:Rd w (.S x.pp x.P.length x.cp) x.P
 rv:Rd w (.S x.pq x.V.length x.cv) x.V
 c1:x.P.length<=x.cp
 c2:x.cp<=maxLen
abbrev RL9 (B:Nat) (w:World) (v:Value) (L:List LK):Prop:=RT bb7 29 7 B w v L
theorem RL9.below {v:Value} {L:List LK} (h:RL9 B w v L) (hb:Bw w w'):RL9 B w' v L:=RT.fr h (al hb) (by simp) (fun _ _ h=>h)
theorem RL9.at {p:Option Addr} {n c:Nat} {L:List LK} (h:RL9 B w (.S p n c) L) {i:Nat} {x:LK} (hx:L[i]?=some x):∃ g,p=some ⟨g,0,none⟩/\∀ (j:Nat) (u:Value),x.cs[j]?=some u->w.cell? ⟨g,i*7+j,none⟩=some u:=by
 obtain ⟨p',c',e,-,-,hg⟩:=RT.form h;simp only [Value.slice.injEq] at e;obtain ⟨rfl,rfl,rfl⟩:=e;obtain ⟨g,rfl⟩:=hg (by have:=(aN.1 hx).1;omega);obtain ⟨cc,-,rfl,hc,-⟩:=RT.at h hx;exact ⟨g,rfl,hc⟩
theorem aa2 {rest:List Oper} {Q:Exit->Act->World->Prop} (jK:o.guard=none) (s x:Operand)
  (ho:o.op=.call { callee:=.builtin .append,args:=#[s,x],argTypes:=#[46,46] })
  (B:Nat) (v:Value) (zs:List LK) (z:LK) (k:Nat) (ek:Hid (zs.length=k)) (hs:a.eval s=v) (br:RL9 B w v zs) (g:Nat) (hx:a.eval x=.S (some ⟨g,0,none⟩) 1 1) (eh:∀ (j:Nat) u,z.cs[j]?=some u->w.cell? ⟨g,j,none⟩=some u)
  (hk:k<4194304) (hB:B<=w.heap.size)
  (h:∀ p' c' w',RL9 B w' (.S p' (k+1) c') (zs++[z])->w.grownBy w' v.ownBlock->wpList Tryz.prog ops Q rest (a.put o.dst (.S p' (k+1) c')) w'):wpList Tryz.prog ops Q (o::rest) a w:=by
 obtain ⟨i,hi,mw,iT,jW⟩:=info_parts Tryz.infoOp;obtain ⟨rs,h1,h2,h3,h4⟩:=br;rw [aa ek] at h3;refine eX jK s x 46 ho B 29 i _ 7 88 Tryz.underlying46 hi mw iT jW rfl (by decide) v _ _ hs h3 g 1 1 _ hx rfl eh (fun u hu=>by simp [LK.cs] at hu;rcases hu with rfl | rfl | rfl | rfl | rfl | rfl | rfl<;>rfl) (by unfold maxLen;omega) (by omega) hB ?_;intro v' w' dW hg _;have sn:RL9 B w' v' (zs++[z]):=RT.snoc h1 h2 h4 (fun _ _ h=>h) rfl rfl (by rw [aa ek];exact dW);obtain ⟨p',c',rfl,-⟩:=RT.form sn;rw [List.length_append,aa ek] at sn ⊢;exact h p' c' w' sn hg
def LKS (W w:World) (pl:Option Addr) (nl cl:Nat) (L:List LK):Prop:=L.length=nl/\(∀ x∈L,LkG W x)/\RL9 W.heap.size w (.S pl nl cl) L
theorem LKS.below {W:World} {pl:Option Addr} {nl cl:Nat} {L:List LK} (h:LKS W w pl nl cl L) (hb:Bw w w'):LKS W w' pl nl cl L:=⟨h.1,h.2.1,RL9.below h.2.2 hb⟩
theorem aq.c7 {b:Nat} {v0 v1 v2 v3 v4 v5 v6:Value} (h:aq w b [v0,v1,v2,v3,v4,v5,v6]):w.cell? ⟨b,0,none⟩=some v0/\w.cell? ⟨b,1,none⟩=some v1/\w.cell? ⟨b,2,none⟩=some v2/\w.cell? ⟨b,3,none⟩=some v3/\w.cell? ⟨b,4,none⟩=some v4/\w.cell? ⟨b,5,none⟩=some v5/\w.cell? ⟨b,6,none⟩=some v6/\∀ o,w.frozen? ⟨b,o,none⟩=false:=⟨h.1 0 _ rfl,h.1 1 _ rfl,h.1 2 _ rfl,h.1 3 _ rfl,h.1 4 _ rfl,h.1 5 _ rfl,h.1 6 _ rfl,h.2⟩
structure FX (w W9 v:World) (sb lb m n:Nat) (D:SD) (ps:Option Addr) (cs:Nat) (qs:Option Addr) (ds:Nat) (x:LK) (np nv:Nat):Prop where
 lk:aq v lb [.I 8,.U x.S,.S x.pp np x.cp,.I 1,.S x.pq nv x.cv,.U x.E,.U x.G]
 bs:BX v sb [.U D.e,.U D.g,.U D.x,.I D.t,.S ps m cs,.S qs n ds]
 rd:ic v (.S ps m cs) D.ss/\kJ v (.S qs n ds) D.ns
 bw:Bw w v
 b9:Bw W9 v
 rp:Rd v (.S x.pp np x.cp) x.P
 rv:Rd v (.S x.pq nv x.cv) x.V
abbrev RXr (v:World) (b:Nat) (R:RP) (j1:Option Addr) (l1 e1:Nat) (j2:Option Addr) (l2 e2:Nat) (j3:Option Addr) (l3 e3:Nat):Prop:=RX v b [.I R.k,.U R.i,.U R.e,.U R.g,.I R.n,.S j1 l1 e1,.S j2 l2 e2,.S j3 l3 e3]
theorem aw7 {i:Int} (h:1<=i/\i<=4611686018427387904):0<=i/\i<18446744073709551616:=⟨by omega,by omega⟩
theorem ag3 {K:Act->World->Prop} {Q:Exit->Act->World->Prop} {E:Prop} (r:Nat) (ho:o.op=.buildSlice 46 1 #[(0,.tmp r)]) (jK:o.guard=none) (v0 v1 v2 v3 v4 v5 v6:Value) (hv:a.eval (.tmp r)=.agg #[v0,v1,v2,v3,v4,v5,v6])
  (h:K (a.put o.dst (.S (some ⟨w.heap.size,0,none⟩) 1 1)) (w.alloc (.cells #[v0,v1,v2,v3,v4,v5,v6] 29))):if Region.wanted o (yielded ops a.tmps)=true then Oper.wp Tryz.prog o a w K Q else E:=by
 obtain ⟨iN,Yc,zN0,YR,zN2⟩:=info_parts Tryz.infoOp;have hw:Region.wanted o (yielded ops a.tmps)=true:=by simp [Region.wanted,jK]
 rw [if_pos hw];refine wp_buildSlice 46 29 1 _ ho #[v0,v1,v2,v3,v4,v5,v6] iN _ Tryz.underlying46 Yc zN0 (by rw [YR];decide) (by rw [YR];decide) ?_ h;rw [YR];simp only [List.map_toArray,List.map_cons,List.map_nil,hv]
 kernel_rfl
theorem ah7 (lK:Hid (∀ code:List Int,bM code->code.length<=1048576->∃ D O,BD D/\Cj O/\UG code D O)) (code:List Int) (p:Option Addr) (c:Nat) (w:World) (hR:Hid (Rd w (.S p code.length c) code)) (hb:Hid (bM code)) (hc:code.length<=c) (hl:code.length<=1048576) (hG:Hid (GW w)) :
  Calls Tryz.prog 4 #[.S p code.length c] w fun r w'=>r=.returned (.bool true)/\Bw w w':=by
 obtain ⟨D,O,hD0,hO0,MW⟩:=aa lK code hb hl;have hD:=ae hD0;have hO:=ae hO0;have hA:=ae MW;clear hD0 hO0 MW lK;have sv:¬ (1048576:Int)<(code.length:Int):=by omega
 obtain ⟨m,em⟩:=aL D.ss.length;obtain ⟨n,en⟩:=aL D.ns.length;have hm2:m<=1000:=by rw [<-aa em];exact hD.sl
 have J3:n<=1000:=by rw [<-aa en];exact hD.nl
 go_enter Tryz.func4,Tryz.ntmps4;go_wp2_with fail;refine (aa hA p c w hR hc).mono ?_;rintro r w1 ⟨ps,cs,qs,ds,pp,cp,pq,cv,rfl,S1,tP,tV,b1⟩;obtain ⟨s1,N1⟩:=S1 w1 (Fr.refl _ _);clear S1;rw [aa em] at s1;rw [aa en] at N1;rw [aa em,aa en];obtain ⟨W2,iL,b2,z2,C2⟩:=oR w1 D ps m cs qs n ds;obtain ⟨W3,kn,b3,z3,C3,-⟩:=aj W2 #[.I O.K,.U O.S,.S pp O.P.length cp,.I O.F,.S pq O.V.length cv,.U O.E,.U O.G] 29;rw [z2] at C3;have bW:=ah b2 b3;have HW:=ae (fun (v:World) (hv:Bw W3 v)=>ag ((C2.below b3).below hv) (ag (s1.below (ah bW hv)) (ag (N1.below (ah bW hv)) (ag (ah b1 (ah bW hv)) (C3.below (by omega) hv)))));obtain ⟨sb,nA⟩:=aH w1.heap.size;rw [nA] at HW;have zsb:sb+1<W3.heap.size:=by omega
 have HP3:=ae (ag (tP.1.below bW) (ag (tV.1.below bW) tP.2.2));have xW:=ae nA;clear s1 N1 b1 b2 b3 z2 z3 C2 C3 bW nA tP tV;go_wp2_with fail;rw [<-iL,<-kn];clear iL kn W2;obtain ⟨ok,Ew⟩:=aL (jY D.e D.g D.x D.t D.ss D.ns);refine (Az D.e D.g D.x D.t ps qs cs m ds n D.ss D.ns em en W3 (aa HW W3 aJ).2.1.rd (aa HW W3 aJ).2.2.1 (by omega) (by omega) (ae hD.nO) (ae hD.fI) ok Ew).mono ?_;rintro r w4 ⟨rfl,gL⟩;have B4:=ae gL;clear gL;rw [aa xW];clear xW w1;cases ok;{go_wp2;go_ret;exact ⟨rfl,(aa HW w4 B4).2.2.2.1⟩};have HV:Hid (VD D):=hD.vd Ew;have hm5:m<=50:=by rw [<-aa em];exact HV.sl
 have hn5:n<=200:=by rw [<-aa en];exact HV.nl
 go_upto_block 0 with fail
 go_cut [5,6,7] (fun lv _ _ wc=>∃ (nl:Nat) (pl:Option Addr) (cl:Nat) (L:List LK),nl<=18/\lv=.S pl nl cl/\Hid (LKS W3 wc pl nl cl L)/\Hid (Bw W3 wc))
 case first =>(
 go_wp2
 go_loopw [5,6] (fun lv iv wr=>∃ (i nl:Nat) (pl:Option Addr) (cl:Nat) (L:List LK),i<=6/\i<=n/\nl<=3*i/\iv=.I i/\lv=.S pl nl cl/\Hid (LKS W3 wr pl nl cl L)/\Hid (Bw W3 wr)) (fun _ iv _=>6-(intOf iv).toNat)
 case atStart=>exact ⟨0,0,none,0,[],by omega,by omega,by omega,rfl,rfl,ae ⟨rfl,fun x hx=>by simp at hx,RT.nil _ _ _ _ _⟩,B4⟩
 case round =>(
 clear B4;obtain ⟨i,nl,pl,cl,L,hi6,pK,IZ,rfl,rfl,HL,HB⟩:=hrel;obtain ⟨q0,q1,q2,q3,q4,q5,qf⟩:=(aa HW wr HB).1.cells;by_cases bj:i<n/\i<6;{
 have Hr:=aT i n;have h2':(i:Int)<6:=by omega
 go_wp2;clear q0 q1 q2 q3 q4 q5 qf
 go_loopw [5,7] (fun lv kv wr=>∃ (k nl:Nat) (pl:Option Addr) (cl:Nat) (L:List LK),k<=3/\k<=m/\nl<=3*i+k/\kv=.I k/\lv=.S pl nl cl/\Hid (LKS W3 wr pl nl cl L)/\Hid (Bw W3 wr)) (fun _ kv _=>3-(intOf kv).toNat)
 case atStart=>exact ⟨0,nl,pl,cl,L,by omega,by omega,by omega,rfl,rfl,HL,HB⟩
 case round =>(
 clear HL HB IZ;obtain ⟨k,nl,pl,cl,L,VV,hkm,IZ,rfl,rfl,HL,HB⟩:=hrel;obtain ⟨q0,q1,q2,q3,q4,q5,qf⟩:=(aa HW wr HB).1.cells;by_cases hlk:k<m/\k<3;{
 have k1':=aT k m;have k2':(k:Int)<3:=by omega
 obtain ⟨s,hs⟩:∃ s,D.ss[k]?=some s:=⟨_,aK (by rw [aa em];exact hlk.1)⟩;obtain ⟨nd,aV⟩:∃ nd,D.ns[i]?=some nd:=⟨_,aK (by rw [aa en];exact bj.1)⟩
 as_aux_lemma=>
 obtain ⟨gs,os,-,-,rfl,c1,-⟩:=uJ.at3 (aa HW W3 aJ).2.1.rd hs;obtain ⟨gn,on,P9,V9,H9,U9,rfl,NA⟩:=kJ.own (aa HW W3 aJ).2.2.1 aV;obtain ⟨np9,ae8⟩:=aL nd.path.length;obtain ⟨id,eid⟩:=aL s.1;rw [aa eid] at c1;obtain ⟨pp9,cp9,rfl⟩:∃ p c,P9=.S p np9 c:=by obtain ⟨p,c,e,-⟩:=NA.r0;rw [aa ae8] at e;exact ⟨p,c,e⟩
 have XJ:Hid (∀ w',Bw W3 w'->(w'.cell? ⟨sb,4,none⟩=some (.S (some ⟨gs,os,none⟩) m cs)/\w'.cell? ⟨gs,os+k*3,none⟩=some (.U id)/\w'.cell? ⟨sb,5,none⟩=some (.S (some ⟨gn,on,none⟩) n ds)/\w'.cell? ⟨gn,on+i*8,none⟩=some (.S pp9 np9 cp9))):=fun w' hv=>⟨(aa HW w' hv).1.cells.2.2.2.2.1,af c1 hv,(aa HW w' hv).1.cells.2.2.2.2.2.1,(NA.below hv).c0⟩;obtain ⟨x9,ex9⟩:∃ x9:LK,x9=⟨id,pp9,cp9,nd.path,none,0,[],0,0⟩:=⟨_,rfl⟩;have Ij:Hid (x9.cs=[.I 8,.U id,.S pp9 np9 cp9,.I 1,.S none 0 0,.U 0,.U 0]):=by show _=_;rw [ex9];simp [LK.cs,aa ae8]
 have HG9:Hid (LkG W3 x9):=by have hnv:=HV.fI nd (aF aV);obtain ⟨p',n',c',e',Hr,h2'⟩:=NA.k0;simp only [Value.slice.injEq] at e';obtain ⟨-,rfl,rfl⟩:=e';have hr0:=NA.r0;rw [ex9];exact ⟨aw7 (HV.ZO (List.mem_map.2 ⟨s,aF hs,aa eid⟩:id∈iD D.ss)),hnv.1,fun z hz=>by simp at hz,hnv.2.1,by simp,by rw [aa ae8];exact hr0,Rd.nil _,by rw [aa ae8];exact Hr,h2'⟩
 have e22:x9.P.length=np9:=by rw [ex9];exact aa ae8
 clear NA c1 hs aV e22 ex9;have Kh:=ae (ag (aa HB) HL.2.2);go_wp2_with fail;obtain ⟨vA,aX⟩:=ax wr.drew;have bA:=dG aX;have HA:=ae (ag (ah (aa HB) bA) (HL.below bA));refine bO (fun w'=>w'.cell? ⟨sb,4,none⟩=some (.S (some ⟨gs,os,none⟩) m cs)/\w'.cell? ⟨gs,os+k*3,none⟩=some (.U id)/\w'.cell? ⟨sb,5,none⟩=some (.S (some ⟨gn,on,none⟩) n ds)/\w'.cell? ⟨gn,on+i*8,none⟩=some (.S pp9 np9 cp9)) (by rw [<-aX];exact aa XJ vA HA.1) fun hS=>?_;rw [<-aX] at hS ⊢;clear aX bA q0 q1 q2 q3 q4 q5 qf;refine gy 0 1 2 3 4 5 6 7 hS ?_;refine gC 8 9 10 11 hS ?_;refine fe 12 13 hS ?_;refine bH 14 fun KK hK=>?_;refine ag3 _ (by rfl) (by rfl) _ _ _ _ _ _ _ (by rfl) ?_;obtain ⟨v1,DA,b1,z1,CY,-⟩:=aj vA #[.I 8,.U id,.S pp9 np9 cp9,.I 1,.S none 0 0,.U 0,.U 0] 29;rw [<-DA];have HC:=ae (ag (ah HA.1 b1) (ag (HA.2.below b1) CY.1));refine cg hK (by exact XJ v1 HC.1) fun hS=>?_;clear hK KK DA CY b1 z1;obtain ⟨iO,hiO,zO0,zO1,zO2⟩:=info_parts Tryz.infoOp;refine bH 15 fun KK hK=>?_;refine fQ (by rfl) _ _ 46 (by rfl) W3.heap.size 29 iO _ 7 88 Tryz.underlying46 hiO zO0 zO1 zO2 rfl (by decide) (.S pl nl cl) L nl HC.2.1.1 (by rfl) HC.2.1.2.2 vA.heap.size x9 [.I 8,.U id,.S pp9 np9 cp9,.I 1,.S none 0 0,.U 0,.U 0] (by rfl) Ij.symm rfl HC.2.2 (fun u hu=>by simp at hu;rcases hu with rfl | rfl | rfl | rfl | rfl | rfl | rfl<;>rfl) (fun w' _ x c h=>h) (by omega) (by omega) HC.1.size ?_;intro p' c' w9 ya fh f9 _;have B9:Bw W3 w9:=HC.1.trans ⟨fh.os,fh.tape,fh.output,fh.size,fun b hb=>fh.block b (by have:=HC.1.size;omega) (fun e=>by have:=(HC.2.1.2.2.lt b e.symm).1;omega)⟩;have XN:Hid (∀ y∈L++[x9],LkG W3 y):=fun y hy=>by rcases List.mem_append.1 hy with h | h;{exact HC.2.1.2.1 y h};{simp at h;subst h;exact HG9}
 have ae9:(L++[x9]).length=nl+1:=by rw [List.length_append,HC.2.1.1];rfl
 have HD:Hid (LKS W3 w9 p' (nl+1) c' (L++[x9])/\Bw W3 w9):=⟨⟨ae9,XN,ya⟩,B9⟩;clear ae9;refine cg hK (by exact XJ w9 B9) fun hS=>?_;clear hK KK ya fh f9 B9;refine tn 16 hS ?_;refine bu ?_;clear hS;go_wp2;go_roundw
 case rel=>exact ⟨k+1,nl+1,p',c',L++[x9],by omega,by omega,by omega,by go_num,rfl,HD.1,HD.2⟩
 case measure=>simp [intOf];omega}
 {
 have aj9:¬ ((k:Int)<(m:Int)/\(k:Int)<3):=by omega
 by_cases Rb:k<m;{
 have h1:=aT k m;have h2:¬ (k:Int)<3:=by omega
 clear aj9;go_wp2;go_roundw
 case rel=>exact ⟨i+1,nl,pl,cl,L,by omega,by omega,by omega,by go_num,rfl,HL,HB⟩
 case measure=>simp [intOf];omega}
 {
 have h1:=dy k m;clear aj9;go_wp2;go_roundw
 case rel=>exact ⟨i+1,nl,pl,cl,L,by omega,by omega,by omega,by go_num,rfl,HL,HB⟩
 case measure=>simp [intOf];omega}})}
 {
 by_cases Mu:i<n;{
 have h1:=aT i n;have h2:¬ (i:Int)<6:=by omega
 go_wp2;go_meet
 case rel=>exact ⟨nl,pl,cl,L,by omega,rfl,HL,HB⟩}
 {
 have h1:=dy i n;go_wp2;go_meet
 case rel=>exact ⟨nl,pl,cl,L,by omega,rfl,HL,HB⟩}}))
 case rest=>
 clear B4;obtain ⟨nl,pl,cl,L,IZ,rfl,HL,HB⟩:=hcut;obtain ⟨wr,ewr⟩:=aH wc;rw [ewr] at HL HB ⊢;clear ewr wc;obtain ⟨o0,o1,o2,o3,o4,o5,o6⟩:_/\_/\_/\_/\_/\_/\_:=⟨(aa HW wr HB).2.2.2.2.1 0 _ rfl,(aa HW wr HB).2.2.2.2.1 1 _ rfl,(aa HW wr HB).2.2.2.2.1 2 _ rfl,(aa HW wr HB).2.2.2.2.1 3 _ rfl,(aa HW wr HB).2.2.2.2.1 4 _ rfl,(aa HW wr HB).2.2.2.2.1 5 _ rfl,(aa HW wr HB).2.2.2.2.1 6 _ rfl⟩;obtain ⟨bo,ebo⟩:∃ b,Hid (decide (O.K=8/\O.F=1)=b):=⟨_,ae rfl⟩
 go_upto_region 14 with fail
 go_cut [84] (fun b wc=>b=.bool bo/\wc=wr)
 case first =>(
 have eb:=aa ebo;by_cases h8:O.K=8;{
 have e8:(O.K==8)=true:=by simp [h8]
 by_cases h1:O.F=1;{
 have e9:(O.F==1)=true:=by simp [h1]
 simp [h8,h1] at eb;subst eb;clear h8 h1;go_wp2;go_meet
 case rel=>exact ⟨rfl,rfl⟩}
 {
 have e9:(O.F==1)=false:=by simp [h1]
 simp [h8,h1] at eb;subst eb;clear h8 h1;go_wp2;go_meet
 case rel=>exact ⟨rfl,rfl⟩}}
 {
 have e8:(O.K==8)=false:=by simp [h8]
 simp [h8] at eb;subst eb;clear h8;go_wp2;go_meet
 case rel=>exact ⟨rfl,rfl⟩})
 case rest=>
 obtain ⟨rfl,Hg⟩:=hcut;rw [Hg];clear Hg wc
 go_upto_if 84 with fail
 go_cut [5] (fun lv wc=>∃ (nl:Nat) (pl:Option Addr) (cl:Nat) (L:List LK),nl<=19/\lv=.S pl nl cl/\Hid (LKS W3 wc pl nl cl L)/\Hid (Bw W3 wc))
 case first =>(
 cases bo;{
 go_wp2;go_meet
 case rel=>exact ⟨nl,pl,cl,L,by omega,rfl,HL,HB⟩}
 {
 have DI:O.K=8/\O.F=1:=of_decide_eq_true ebo;obtain ⟨x9,ex9⟩:∃ x9:LK,x9=⟨O.S,pp,cp,O.P,pq,cv,O.V,O.E,O.G⟩:=⟨_,rfl⟩;have Ij:Hid (x9.cs=[.I O.K,.U O.S,.S pp O.P.length cp,.I O.F,.S pq O.V.length cv,.U O.E,.U O.G]):=by show _=_;rw [ex9,DI.1,DI.2];rfl
 have HG9:Hid (LkG W3 x9):=by obtain ⟨hp1,hp2,p',n',c',e',Hr,h2'⟩:=aa HP3;simp only [Value.slice.injEq] at e';obtain ⟨-,rfl,rfl⟩:=e';rw [ex9];exact ⟨hO.s,hO.p,hO.v,by have:=hO.pl;show O.P.length<=_;omega,by have:=hO.vl;show O.V.length<=_;omega,hp1,hp2,Hr,h2'⟩
 obtain ⟨Y,hY,bY,zY,CY,-⟩:=aj wr #[.I O.K,.U O.S,.S pp O.P.length cp,.I O.F,.S pq O.V.length cv,.U O.E,.U O.G] 29;have HC:=ae (ag (ah (aa HB) bY) (ag (HL.below bY) CY.1));clear DI ex9 CY bY zY;go_wp2_with (at_builtin;rw [<-hY];refine aa2 rfl _ _ rfl W3.heap.size (.S pl nl cl) L x9 nl HC.2.1.1 rfl HC.2.1.2.2 wr.heap.size rfl (fun j u hu=>HC.2.2 j u (by rw [aa Ij] at hu;exact hu)) (by omega) HC.1.size ?_);intro p' c' w9 ya fh;rw [<-hY] at fh;have B9:Bw W3 w9:=HC.1.trans ⟨fh.os,fh.tape,fh.output,fh.size,fun b hb=>fh.block b (by have:=HC.1.size;omega) (fun e=>by have:=(HC.2.1.2.2.lt b e.symm).1;omega)⟩;have XN:Hid (∀ y∈L++[x9],LkG W3 y):=fun y hy=>by rcases List.mem_append.1 hy with h | h;{exact HC.2.1.2.1 y h};{simp at h;subst h;exact HG9}
 have ae9:(L++[x9]).length=nl+1:=by rw [List.length_append,HC.2.1.1];rfl
 have HD:Hid (LKS W3 w9 p' (nl+1) c' (L++[x9])/\Bw W3 w9):=⟨⟨ae9,XN,ya⟩,B9⟩;clear ae9;clear ya fh B9 hY;go_wp2;go_meet
 case rel=>exact ⟨nl+1,p',c',_,by omega,rfl,HD.1,HD.2⟩})
 case rest=>
 clear HL HB IZ o0 o1 o2 o3 o4 o5 o6;obtain ⟨nl,pl,cl,L,IZ,rfl,HL,HB⟩:=hcut;obtain ⟨W9,eW9⟩:=aH wc;rw [eW9] at HL HB ⊢;clear eW9 wc;go_wp2
 go_loopw [8] (fun iv wr=>∃ i:Nat,i<=nl/\iv=.I i/\Hid (Bw W9 wr)) (fun iv _=>nl-(intOf iv).toNat)
 case atStart=>exact ⟨0,by omega,rfl,ae aJ⟩
 case round =>(
 obtain ⟨i,hi,rfl,HBr⟩:=hrel;by_cases bj:i<nl;{
 have bm:=aT i nl;obtain ⟨x,hx⟩:∃ x,L[i]?=some x:=⟨_,aK (by rw [HL.1];exact bj)⟩;obtain ⟨g9,rfl,la⟩:=RL9.at (HL.below HBr).2.2 hx;have HG:=ae (HL.2.1 x (aF hx));obtain ⟨np,Ai⟩:=aL x.P.length;obtain ⟨nv,env⟩:=aL x.V.length;rw [show x.cs=[.I 8,.U x.S,.S x.pp np x.cp,.I 1,.S x.pq nv x.cv,.U x.E,.U x.G] by simp [LK.cs,aa Ai,aa env]] at la;obtain ⟨o0,o1,o2,o3,o4,o5,o6⟩:_/\_/\_/\_/\_/\_/\_:=⟨la 0 _ rfl,la 1 _ rfl,la 2 _ rfl,la 3 _ rfl,la 4 _ rfl,la 5 _ rfl,la 6 _ rfl⟩;rw [Nat.add_zero] at o0;have hnp:np<=1048576:=by rw [<-aa Ai];exact HG.pl
 have hnv:nv<=1048576:=by rw [<-aa env];exact HG.vl
 have kH:np<=x.cp:=by rw [<-aa Ai];exact HG.c1
 have jF:x.cp<=maxLen:=HG.c2;obtain ⟨W1,iM,b1,z1,C1,-⟩:=aj wr #[.I 8,.U x.S,.S x.pp np x.cp,.I 1,.S x.pq nv x.cv,.U x.E,.U x.G] 29;have HX:Hid (∀ v,Bw W1 v->FX w W9 v sb wr.heap.size m n D ps cs qs ds x np nv):=fun v hv=>by have b3:=ah HB (ah HBr (ah b1 hv));have h:=aa HW v b3;exact ⟨C1.below (by omega) hv,h.1,⟨h.2.1,h.2.2.1⟩,h.2.2.2.1,ah (aa HBr) (ah b1 hv),by rw [<-aa Ai];exact HG.rp.below b3,by rw [<-aa env];exact HG.rv.below b3⟩
 have zz1:W1.heap.size=wr.heap.size+1:=z1;obtain ⟨k0,k1,k2,k3,k4,k5,k6,kf⟩:=(aa HX W1 aJ).lk.c7;obtain ⟨q0,q1,q2,q3,q4,q5,qf⟩:=(aa HX W1 aJ).bs.cells;rw [iM] at k0 k1 k2 k3 k4 k5 k6 q0 q1 q2 q3 q4 q5;clear la hx b1 z1 C1 kf qf bj;go_wp2_with fail;rw [<-iM];clear iM o0 o1 o2 o3 o4 o5 o6 k0 k1 k2 k3 k4 k5 k6 q0 q1 q2 q3 q4 q5;obtain ⟨R,eR⟩:=aL (aM D 8 x.S 1 x.E x.G x.P x.V);refine (af1 HV ps m cs qs n ds em en 8 x.S 1 x.E x.G x.pp np x.cp x.pq nv x.cv x.P x.V Ai env W1 (aa HX W1 aJ).rd (aa HX W1 aJ).rp (aa HX W1 aJ).rv hnp hnv kH jF HG.p R eR).mono ?_;rintro r w2 ⟨p2,n2,c2,q2,m2,d2,j1,l1,e1,j2,l2,e2,j3,l3,e3,rfl,b2⟩;obtain ⟨X2,Y2,hX2,hY2,-,C2,b22,z2⟩:=ac5 w2 (.U R.1.e) (.U R.1.g) (.U R.1.x) (.I R.1.t) (.S p2 n2 c2) (.S q2 m2 d2) (.I R.2.k) (.U R.2.i) (.U R.2.e) (.U R.2.g) (.I R.2.n) (.S j1 l1 e1) (.S j2 l2 e2) (.S j3 l3 e3);have HY:Hid (∀ v,Bw Y2 v->RXr v (w2.heap.size+1) R.2 j1 l1 e1 j2 l2 e2 j3 l3 e3/\FX w W9 v sb wr.heap.size m n D ps cs qs ds x np nv):=fun v hv=>⟨C2.below hv,HX v (ah b2 (ah b22 hv))⟩;have UL:W1.heap.size<=w2.heap.size/\Y2.heap.size=w2.heap.size+1+1:=⟨b2.size,z2⟩;clear C2 b22 b2 z2;go_wp2_with fail;rw [<-hX2,<-hY2];clear hX2 hY2 X2;refine (aa hA p c Y2 (hR.below (aa HY Y2 aJ).2.bw) hc).mono ?_;rintro r w3 ⟨pt,ct,qt,dt,pp',cp',pq',cv',rfl,S3,-,-,b3⟩;obtain ⟨s3,N3⟩:=S3 w3 (Fr.refl _ _);clear S3;rw [aa em] at s3;rw [aa en] at N3;rw [aa em,aa en];obtain ⟨X3,hX3,b31,z31,C3⟩:=oR w3 D pt m ct qt n dt;obtain ⟨Y3,hY3,b32,z32,-,-⟩:=aj X3 #[.I O.K,.U O.S,.S pp' O.P.length cp',.I O.F,.S pq' O.V.length cv',.U O.E,.U O.G] 29;have b33:=ah b31 b32;have HZ:Hid (∀ v,Bw Y3 v->BX v w3.heap.size [.U D.e,.U D.g,.U D.x,.I D.t,.S pt m ct,.S qt n dt]/\(ic v (.S pt m ct) D.ss/\kJ v (.S qt n dt) D.ns)/\RXr v (w2.heap.size+1) R.2 j1 l1 e1 j2 l2 e2 j3 l3 e3/\FX w W9 v sb wr.heap.size m n D ps cs qs ds x np nv):=fun v hv=>⟨(C3.below b32).below hv,⟨s3.below (ah b33 hv),N3.below (ah b33 hv)⟩,HY v (ah b3 (ah b33 hv))⟩;have XX:Y2.heap.size<=w3.heap.size/\Y3.heap.size=w3.heap.size+1+1:=⟨b3.size,by omega⟩;obtain ⟨q0,q1,q2',q3,q4,q5,qf⟩:=(aa HZ Y3 aJ).1.cells;obtain ⟨k0,k1,k2,k3,k4,k5,k6,kf⟩:=(aa HZ Y3 aJ).2.2.2.lk.c7;rw [hY3,hX3] at q0 q1 q2' q3 q4 q5 k0 k1 k2 k3 k4 k5 k6;clear s3 N3 b3 b31 b32 b33 z31 z32 C3 qf kf;go_wp2_with fail;rw [<-hX3,<-hY3];clear hX3 hY3 X3 q0 q1 q2' q3 q4 q5 k0 k1 k2 k3 k4 k5 k6;obtain ⟨m1,DW⟩:=aL R.1.ss.length;obtain ⟨n1,xC⟩:=aL R.1.ns.length;refine (ad4 HV pt m ct qt n dt em en 8 x.S 1 x.E x.G x.pp np x.cp x.pq nv x.cv x.P x.V Ai env Y3 (aa HZ Y3 aJ).2.1 (aa HZ Y3 aJ).2.2.2.rp (aa HZ Y3 aJ).2.2.2.rv hnp kH jF (hG.below (aa HZ Y3 aJ).2.2.2.bw) HG.p HG.s R.1 R.2 eR m1 n1 DW xC).mono ?_;rintro r w4 ⟨p4,c4,q4,d4,a1,f1,a2,f2,a3,f3,rfl,S4,b4⟩;obtain ⟨X4,Y4,hX4,hY4,CB4,CR4,b44,z4⟩:=ac5 w4 (.U R.1.e) (.U R.1.g) (.U R.1.x) (.I R.1.t) (.S p4 m1 c4) (.S q4 n1 d4) (.I R.2.k) (.U R.2.i) (.U R.2.e) (.U R.2.g) (.I R.2.n) (.S a1 R.2.vK.length f1) (.S a2 R.2.pY.length f2) (.S a3 R.2.qm.length f3);have HN:Hid (∀ v,Bw Y4 v->BX v w4.heap.size [.U R.1.e,.U R.1.g,.U R.1.x,.I R.1.t,.S p4 m1 c4,.S q4 n1 d4]/\(ic v (.S p4 m1 c4) R.1.ss/\kJ v (.S q4 n1 d4) R.1.ns)/\RXr v (w4.heap.size+1) R.2 a1 R.2.vK.length f1 a2 R.2.pY.length f2 a3 R.2.qm.length f3/\RXr v (w2.heap.size+1) R.2 j1 l1 e1 j2 l2 e2 j3 l3 e3/\FX w W9 v sb wr.heap.size m n D ps cs qs ds x np nv):=fun v hv=>⟨CB4.below hv,⟨S4.1.below (ah b44 hv),S4.2.below (ah b44 hv)⟩,CR4.below hv,(aa HZ v (ah b4 (ah b44 hv))).2.2⟩;have z4':Y3.heap.size<=w4.heap.size/\Y4.heap.size=w4.heap.size+1+1:=⟨b4.size,z4⟩;obtain ⟨r0,r1,r2,r3,-⟩:=(aa HN Y4 aJ).2.2.1.cells;obtain ⟨u0,-⟩:=(aa HN Y4 aJ).2.2.2.1.cells;obtain ⟨-,l1',l2',-⟩:=(aa HN Y4 aJ).2.2.2.2.lk.c7;clear S4 b4 b44 z4 CB4 CR4;by_cases ux:¬ R.2.k=0;{
 have e9:(R.2.k != 0)=true:=by simp [ux]
 rw [hY4,hX4] at r0 u0;clear ux;go_wp2;rw [<-hX4,<-hY4];go_roundw
 case rel=>exact ⟨i+1,by omega,by go_num,(aa HN Y4 aJ).2.2.2.2.b9⟩
 case measure=>simp [intOf];omega}
 {
 have hk9:R.2.k=0:=Decidable.not_not.1 ux;have e9:(R.2.k != 0)=false:=by simp [hk9]
 as_aux_lemma=>
 obtain ⟨Hp,hSm,fU,Ea,Eb,Eo,D2,Yn,Eu,Ed⟩:=ad1 HV HG.p HG.v eR hk9;have JJ:=ae Hp;have HV2:=ae Yn;have HEa:=ae Ea;have HEb:=ae Eb;have HEo:=ae Eo;have HEu:=ae Eu;have HEd:=ae Ed;have HSm:=ae hSm;have wg:IntKind.u64.wrap (R.2.g+1)=R.2.g+1:=IntWalk.u64_in _ (by omega);clear Hp Yn Ea Eb Eo Eu Ed hSm ux hk9 fU;obtain ⟨W5,hW5,b5,z5,C5,-⟩:=aj Y4 #[.I 10,.U x.S,.S x.pp np x.cp,.I 0,.S none 0 0,.U R.2.e,.U R.2.g] 29;obtain ⟨ck,eck⟩:=aH Y4.heap.size;have HQ:Hid (∀ v,Nb ck W5 v->BX v w4.heap.size [.U R.1.e,.U R.1.g,.U R.1.x,.I R.1.t,.S p4 m1 c4,.S q4 n1 d4]/\(ic v (.S p4 m1 c4) R.1.ss/\kJ v (.S q4 n1 d4) R.1.ns)/\RXr v (w4.heap.size+1) R.2 a1 R.2.vK.length f1 a2 R.2.pY.length f2 a3 R.2.qm.length f3/\RXr v (w2.heap.size+1) R.2 j1 l1 e1 j2 l2 e2 j3 l3 e3/\FX w W9 v sb wr.heap.size m n D ps cs qs ds x np nv):=fun v hv=>aa HN v (Below.trans b5 (hv.lo eck));have CK5:aq W5 ck [.I 10,.U x.S,.S x.pp np x.cp,.I 0,.S none 0 0,.U R.2.e,.U R.2.g]:=by rw [<-eck];exact C5
 have zck:ck<W5.heap.size/\w4.heap.size+1<ck/\W5.heap.size=ck+1:=⟨by omega,by omega,by omega⟩;obtain ⟨n0,n1',n2',n3,n4,n5,nf⟩:=(aa HQ W5 (Nb.refl _ _)).1.cells;obtain ⟨k0,k1,k2,k3,k4,k5,k6,kf⟩:=CK5.c7;rw [<-eck] at k0 k1 k2 k3 k4 k5 k6;rw [hW5,hY4,hX4] at n0 n1' n2' n3 n4 n5 k0 k1 k2 k3 k4 k5 k6;rw [hY4,hX4] at r0 r2 r3 u0 l1' l2';have CK:=ae CK5;have ECK:Hid (w4.heap.size+1+1=ck):=by show _=_;omega
 clear b5 z5 C5 CK5 nf kf eck r1;go_wp2_with fail;rw [<-hX4,<-hY4,<-hW5];clear hX4 hY4 hW5 X4 n0 n1' n2' n3 n4 n5 k0 k1 k2 k3 k4 k5 k6 r0 r2 r3 u0 l1' l2' e9;rw [aa ECK];clear ECK;refine (ad4 JJ p4 m1 c4 q4 n1 d4 DW xC 10 x.S 0 R.2.e R.2.g x.pp np x.cp none 0 0 x.P [] Ai (ae rfl) W5 (aa HQ W5 (Nb.refl _ _)).2.1 (aa HQ W5 (Nb.refl _ _)).2.2.2.2.rp (Rd.nil _) hnp kH jF (hG.below (aa HQ W5 (Nb.refl _ _)).2.2.2.2.bw) HG.p HG.s R.1 ⟨0,0,0,0,1,[],[],[]⟩ HEa m1 n1 DW xC).mono ?_;rintro r w6 ⟨p6,c6,q6,d6,g1,h1,g2,h2,g3,h3,rfl,-,b6⟩;dsimp only;obtain ⟨X6,Y6,hX6,hY6,CB,CR,bb,zz⟩:=ac5 w6 (.U R.1.e) (.U R.1.g) (.U R.1.x) (.I R.1.t) (.S p6 m1 c6) (.S q6 n1 d6) (.I 0) (.U 0) (.U 0) (.U 0) (.I 1) (.S g1 0 h1) (.S g2 0 h2) (.S g3 0 h3);have nb6:Nb ck W5 Y6:=Nb.of (by omega) (ah b6 bb);have z6:W5.heap.size<=w6.heap.size/\Y6.heap.size=w6.heap.size+1+1:=⟨b6.size,zz⟩;have HQ1:Hid (∀ v,Nb ck Y6 v->RX v (w6.heap.size+1) [.I 0,.U 0,.U 0,.U 0,.I 1,.S g1 0 h1,.S g2 0 h2,.S g3 0 h3]/\BX v w4.heap.size [.U R.1.e,.U R.1.g,.U R.1.x,.I R.1.t,.S p4 m1 c4,.S q4 n1 d4]/\(ic v (.S p4 m1 c4) R.1.ss/\kJ v (.S q4 n1 d4) R.1.ns)/\RXr v (w4.heap.size+1) R.2 a1 R.2.vK.length f1 a2 R.2.pY.length f2 a3 R.2.qm.length f3/\RXr v (w2.heap.size+1) R.2 j1 l1 e1 j2 l2 e2 j3 l3 e3/\FX w W9 v sb wr.heap.size m n D ps cs qs ds x np nv):=fun v hv=>⟨CR.aS (hv.2.2 _ (by omega) (by omega)),HQ v (nb6.trans hv)⟩;have CK6:=CK.below zck.1 (ah b6 bb);obtain ⟨Z6,hZ6⟩:=ax (Y6.setCell ⟨ck,6,none⟩ (.U (R.2.g+1)));have CZ6:aq Z6 ck [.I 10,.U x.S,.S x.pp np x.cp,.I 0,.S none 0 0,.U R.2.e,.U (R.2.g+1)]:=by rw [hZ6];exact CK6.dI 6 (by simp) _
 have af2:Nb ck Y6 Z6:=by rw [hZ6];exact Nb.set ck 6 Y6 _
 have Kf:=ae (fun (v:World) (hv:Nb ck Z6 v)=>aa HQ1 v (af2.trans hv));have zZ6:=af2.2.1;obtain ⟨n0,n1',n2',n3,n4,n5,-⟩:=(aa Kf Z6 (Nb.refl _ _)).2.1.cells;obtain ⟨k0,k1,k2,k3,k4,k5,k6,-⟩:=CZ6.c7;obtain ⟨-,-,-,r3,-⟩:=(aa HQ1 Y6 (Nb.refl _ _)).2.2.2.1.cells;obtain ⟨-,-,-,-,-,-,y6,yf⟩:=CK6.c7;rw [hZ6,hY6,hX6] at n0 n1' n2' n3 n4 n5 k0 k1 k2 k3 k4 k5 k6;rw [hY6,hX6] at r3 y6 yf;have CKZ:=ae CZ6;clear CB CR bb zz b6 nb6 af2 CK6 CZ6 CK;go_wp2_with fail;rw [<-hX6,<-hY6,<-hZ6];clear hX6 hY6 hZ6 X6 n0 n1' n2' n3 n4 n5 k0 k1 k2 k3 k4 k5 k6 r3 y6 yf;refine (ad4 JJ p4 m1 c4 q4 n1 d4 DW xC 10 x.S 0 R.2.e (R.2.g+1) x.pp np x.cp none 0 0 x.P [] Ai (ae rfl) Z6 (aa Kf Z6 (Nb.refl _ _)).2.2.1 (aa Kf Z6 (Nb.refl _ _)).2.2.2.2.2.rp (Rd.nil _) hnp kH jF (hG.below (aa Kf Z6 (Nb.refl _ _)).2.2.2.2.2.bw) HG.p HG.s R.1 ⟨0,0,0,0,0,[],[],[]⟩ HEb m1 n1 DW xC).mono ?_;rintro r w7 ⟨p7,c7,q7,d7,g4,h4,g5,h5,g6,h6,rfl,-,b7⟩;dsimp only;obtain ⟨X7,Y7,hX7,hY7,CB,CR,bb,zz⟩:=ac5 w7 (.U R.1.e) (.U R.1.g) (.U R.1.x) (.I R.1.t) (.S p7 m1 c7) (.S q7 n1 d7) (.I 0) (.U 0) (.U 0) (.U 0) (.I 0) (.S g4 0 h4) (.S g5 0 h5) (.S g6 0 h6);have nb7:Nb ck Z6 Y7:=Nb.of (by omega) (ah b7 bb);have z7:Z6.heap.size<=w7.heap.size/\Y7.heap.size=w7.heap.size+1+1:=⟨b7.size,zz⟩;have HQ3:Hid (∀ v,Nb ck Y7 v->RX v (w7.heap.size+1) [.I 0,.U 0,.U 0,.U 0,.I 0,.S g4 0 h4,.S g5 0 h5,.S g6 0 h6]/\RX v (w6.heap.size+1) [.I 0,.U 0,.U 0,.U 0,.I 1,.S g1 0 h1,.S g2 0 h2,.S g3 0 h3]/\BX v w4.heap.size [.U R.1.e,.U R.1.g,.U R.1.x,.I R.1.t,.S p4 m1 c4,.S q4 n1 d4]/\(ic v (.S p4 m1 c4) R.1.ss/\kJ v (.S q4 n1 d4) R.1.ns)/\RXr v (w4.heap.size+1) R.2 a1 R.2.vK.length f1 a2 R.2.pY.length f2 a3 R.2.qm.length f3/\RXr v (w2.heap.size+1) R.2 j1 l1 e1 j2 l2 e2 j3 l3 e3/\FX w W9 v sb wr.heap.size m n D ps cs qs ds x np nv):=fun v hv=>⟨CR.aS (hv.2.2 _ (by omega) (by omega)),Kf v (nb7.trans hv)⟩;have CK7:=CKZ.below (by omega) (ah b7 bb);obtain ⟨Z7,hZ7⟩:=ax (Y7.setCell ⟨ck,6,none⟩ (.U R.2.g));have CZ7:aq Z7 ck [.I 10,.U x.S,.S x.pp np x.cp,.I 0,.S none 0 0,.U R.2.e,.U R.2.g]:=by rw [hZ7];exact CK7.dI 6 (by simp) _
 have ai2:Nb ck Y7 Z7:=by rw [hZ7];exact Nb.set ck 6 Y7 _
 have HQ4:=ae (fun (v:World) (hv:Nb ck Z7 v)=>aa HQ3 v (ai2.trans hv));have zZ7:=ai2.2.1;obtain ⟨n0,n1',n2',n3,n4,n5,-⟩:=(aa HQ4 Z7 (Nb.refl _ _)).2.2.1.cells;obtain ⟨-,l1',l2',-⟩:=(aa HQ4 Z7 (Nb.refl _ _)).2.2.2.2.2.2.lk.c7;obtain ⟨-,-,-,r3,-⟩:=(aa HQ3 Y7 (Nb.refl _ _)).2.2.2.2.1.cells;obtain ⟨-,-,-,-,-,-,y6,yf⟩:=CK7.c7;rw [hZ7,hY7,hX7] at n0 n1' n2' n3 n4 n5 l1' l2';rw [hY7,hX7] at r3 y6 yf;have CKW:=ae CZ7;clear CB CR bb zz b7 nb7 ai2 CK7 CZ7 CKZ;go_wp2_with fail;rw [<-hX7,<-hY7,<-hZ7];clear hX7 hY7 hZ7 X7 n0 n1' n2' n3 n4 n5 l1' l2' r3 y6 yf wg;obtain ⟨u1,Ub⟩:=aL D2.ss.length;obtain ⟨u2,eu2⟩:=aL D2.ns.length;refine (ad4 JJ p4 m1 c4 q4 n1 d4 DW xC 9 x.S 0 0 0 x.pp np x.cp none 0 0 x.P [] Ai (ae rfl) Z7 (aa HQ4 Z7 (Nb.refl _ _)).2.2.2.1 (aa HQ4 Z7 (Nb.refl _ _)).2.2.2.2.2.2.rp (Rd.nil _) hnp kH jF (hG.below (aa HQ4 Z7 (Nb.refl _ _)).2.2.2.2.2.2.bw) HG.p HG.s D2 ⟨0,0,0,0,0,[],[],[]⟩ HEu u1 u2 Ub eu2).mono ?_;rintro r w8 ⟨p8,c8,q8,d8,g7,h7,g8,h8,g0,h0,rfl,S8,b8⟩;dsimp only;obtain ⟨X8,Y8,hX8,hY8,CB,CR,bb,zz⟩:=ac5 w8 (.U D2.e) (.U D2.g) (.U D2.x) (.I D2.t) (.S p8 u1 c8) (.S q8 u2 d8) (.I 0) (.U 0) (.U 0) (.U 0) (.I 0) (.S g7 0 h7) (.S g8 0 h8) (.S g0 0 h0);have nb8:Nb ck Z7 Y8:=Nb.of (by omega) (ah b8 bb);have z8:Z7.heap.size<=w8.heap.size/\Y8.heap.size=w8.heap.size+1+1:=⟨b8.size,zz⟩;have Ke:Hid (∀ v,Nb ck Y8 v->RX v (w8.heap.size+1) [.I 0,.U 0,.U 0,.U 0,.I 0,.S g7 0 h7,.S g8 0 h8,.S g0 0 h0]/\RX v (w7.heap.size+1) [.I 0,.U 0,.U 0,.U 0,.I 0,.S g4 0 h4,.S g5 0 h5,.S g6 0 h6]/\RX v (w6.heap.size+1) [.I 0,.U 0,.U 0,.U 0,.I 1,.S g1 0 h1,.S g2 0 h2,.S g3 0 h3]/\BX v w4.heap.size [.U R.1.e,.U R.1.g,.U R.1.x,.I R.1.t,.S p4 m1 c4,.S q4 n1 d4]/\(ic v (.S p4 m1 c4) R.1.ss/\kJ v (.S q4 n1 d4) R.1.ns)/\RXr v (w4.heap.size+1) R.2 a1 R.2.vK.length f1 a2 R.2.pY.length f2 a3 R.2.qm.length f3/\RXr v (w2.heap.size+1) R.2 j1 l1 e1 j2 l2 e2 j3 l3 e3/\FX w W9 v sb wr.heap.size m n D ps cs qs ds x np nv):=fun v hv=>⟨CR.aS (hv.2.2 _ (by omega) (by omega)),HQ4 v (nb8.trans hv)⟩;have CK8:=CKW.below (by omega) (ah b8 bb);have HF:Hid (ic Y8 (.S p8 u1 c8) D2.ss/\kJ Y8 (.S q8 u2 d8) D2.ns):=⟨S8.1.below bb,S8.2.below bb⟩;obtain ⟨n0,n1',n2',n3,n4,n5,-⟩:=CB.cells;obtain ⟨k0,k1,k2,k3,k4,k5,k6,-⟩:=CK8.c7;rw [hY8,hX8] at n0 n1' n2' n3 n4 n5 k0 k1 k2 k3 k4 k5 k6;have CKX:=ae CK8;clear CB CR bb zz b8 nb8 CK8 CKW S8;go_wp2_with fail;rw [<-hX8,<-hY8];clear hX8 hY8 X8 n0 n1' n2' n3 n4 n5 k0 k1 k2 k3 k4 k5 k6;refine (ad4 HV2 p8 u1 c8 q8 u2 d8 Ub eu2 10 x.S 0 R.2.e R.2.g x.pp np x.cp none 0 0 x.P [] Ai (ae rfl) Y8 HF (aa Ke Y8 (Nb.refl _ _)).2.2.2.2.2.2.2.rp (Rd.nil _) hnp kH jF (hG.below (aa Ke Y8 (Nb.refl _ _)).2.2.2.2.2.2.2.bw) HG.p HG.s D2 ⟨0,0,0,0,0,[],[],[]⟩ HEd u1 u2 Ub eu2).mono ?_;rintro r w9 ⟨p9,c9,q9,d9,t1,v1,t2,v2,t3,v3,rfl,-,b9⟩;dsimp only;obtain ⟨X9,Y9,hX9,hY9,CB,CR,bb,zz⟩:=ac5 w9 (.U D2.e) (.U D2.g) (.U D2.x) (.I D2.t) (.S p9 u1 c9) (.S q9 u2 d9) (.I 0) (.U 0) (.U 0) (.U 0) (.I 0) (.S t1 0 v1) (.S t2 0 v2) (.S t3 0 v3);have nb9:Nb ck Y8 Y9:=Nb.of (by omega) (ah b9 bb);have z9:Y8.heap.size<=w9.heap.size/\Y9.heap.size=w9.heap.size+1+1:=⟨b9.size,zz⟩;have YJ:Hid (∀ v,Nb ck Y9 v->RX v (w9.heap.size+1) [.I 0,.U 0,.U 0,.U 0,.I 0,.S t1 0 v1,.S t2 0 v2,.S t3 0 v3]/\RX v (w8.heap.size+1) [.I 0,.U 0,.U 0,.U 0,.I 0,.S g7 0 h7,.S g8 0 h8,.S g0 0 h0]/\RX v (w7.heap.size+1) [.I 0,.U 0,.U 0,.U 0,.I 0,.S g4 0 h4,.S g5 0 h5,.S g6 0 h6]/\RX v (w6.heap.size+1) [.I 0,.U 0,.U 0,.U 0,.I 1,.S g1 0 h1,.S g2 0 h2,.S g3 0 h3]/\BX v w4.heap.size [.U R.1.e,.U R.1.g,.U R.1.x,.I R.1.t,.S p4 m1 c4,.S q4 n1 d4]/\(ic v (.S p4 m1 c4) R.1.ss/\kJ v (.S q4 n1 d4) R.1.ns)/\RXr v (w4.heap.size+1) R.2 a1 R.2.vK.length f1 a2 R.2.pY.length f2 a3 R.2.qm.length f3/\RXr v (w2.heap.size+1) R.2 j1 l1 e1 j2 l2 e2 j3 l3 e3/\FX w W9 v sb wr.heap.size m n D ps cs qs ds x np nv):=fun v hv=>⟨CR.aS (hv.2.2 _ (by omega) (by omega)),Ke v (nb9.trans hv)⟩;have CKY:=ae (CKX.below (by omega) (ah b9 bb));obtain ⟨k0,-,-,-,k4,-⟩:=(aa YJ Y9 (Nb.refl _ _)).1.cells;obtain ⟨u0,-⟩:=(aa YJ Y9 (Nb.refl _ _)).2.1.cells;obtain ⟨-,-,-,-,b4',-⟩:=(aa YJ Y9 (Nb.refl _ _)).2.2.1.cells;obtain ⟨a0,-,-,-,a4,-⟩:=(aa YJ Y9 (Nb.refl _ _)).2.2.2.1.cells;rw [hY9,hX9] at k0 k4 u0 b4' a0 a4;clear CB CR bb zz b9 nb9 CKX HF;obtain ⟨lb,elb⟩:=aL wr.heap.size;go_wp2;rw [<-hX9,<-hY9];clear hX9 hY9 X9 k0 k4 u0 b4' a0 a4;have SP:=ae (fun (v:World) (hv:Nb ck Y9 v)=>(aa YJ v hv).2.2.2.2);rw [aa elb] at SP ⊢;have zcY:ck<Y9.heap.size:=by omega
 clear HQ HQ1 Kf HQ3 HQ4 Ke YJ HN HZ HY HX elb UL XX z4' zz1 zck z6 z7 z8 z9 zZ6 zZ7
 go_loopw [25] (fun kv wr=>∃ (k:Nat) (z:Int),k<=m/\kv=.I k/\Hid (Nb ck Y9 wr)/\Hid (aq wr ck [.I 10,.U z,.S x.pp np x.cp,.I 0,.S none 0 0,.U R.2.e,.U R.2.g])) (fun kv _=>m-(intOf kv).toNat)
 case atStart=>exact ⟨0,x.S,by omega,rfl,ae (Nb.refl _ _),CKY⟩
 case round =>(
 clear CKY;obtain ⟨k,z,hk,rfl,HNB,HCK⟩:=hrel;by_cases hlk:k<m;{
 as_aux_lemma=>
 have aj9:=aT k m;obtain ⟨s,hs⟩:∃ s,D.ss[k]?=some s:=⟨_,aK (by rw [aa em];exact hlk)⟩;obtain ⟨gs,os,-,-,rfl,c1,-⟩:=uJ.at3 (aa SP wr HNB).2.2.2.2.rd.1.rd hs;obtain ⟨id,eid⟩:=aL s.1;rw [aa eid] at c1;have HID:Hid (id∈iD D.ss):=List.mem_map.2 ⟨s,aF hs,eid⟩;obtain ⟨vA,aX⟩:=ax wr.drew;have bA:=dG aX;have zwr:=HNB.2.1;have NA:=ae (HNB.trans (Nb.of (by omega) bA));have CA:=ae (HCK.below (by omega) bA);have HSA:Hid (vA.cell? ⟨sb,4,none⟩=some (.S (some ⟨gs,os,none⟩) m cs)/\vA.cell? ⟨gs,os+k*3,none⟩=some (.U id)/\vA.cell? ⟨lb,1,none⟩=some (.U x.S)):=⟨(aa SP vA NA).2.2.2.2.bs.cells.2.2.2.2.1,af c1 bA,(aa SP vA NA).2.2.2.2.lk.c7.2.1⟩;obtain ⟨-,-,-,-,um,-⟩:=(aa SP wr HNB).2.2.2.2.bs.cells;clear c1 hs bA eid;go_wp2_with fail;refine bO (fun w'=>w'.cell? ⟨sb,4,none⟩=some (.S (some ⟨gs,os,none⟩) m cs)/\w'.cell? ⟨gs,os+k*3,none⟩=some (.U id)/\w'.cell? ⟨lb,1,none⟩=some (.U x.S)) (by rw [<-aX];exact aa HSA) fun hS=>?_;rw [<-aX] at hS ⊢;clear aX um HNB HCK;refine gy 0 1 2 3 4 5 6 7 hS ?_;refine tn 8 hS ?_;refine bu ?_;clear hS;have zvA:=NA.2.1;by_cases bL:id=x.S;{
 have e9:(id != x.S)=false:=by simp [bL]
 clear bL;go_wp2;go_roundw
 case rel=>exact ⟨k+1,z,by omega,by go_num,NA,CA⟩
 case measure=>simp [intOf];omega}
 {
 have e9:(id != x.S)=true:=by simp [bL]
 have HNE:=ae bL;obtain ⟨Z,hZ⟩:=ax (vA.setCell ⟨ck,1,none⟩ (.U id));have CZ:aq Z ck [.I 10,.U id,.S x.pp np x.cp,.I 0,.S none 0 0,.U R.2.e,.U R.2.g]:=by rw [hZ];exact CA.dI 1 (by simp) _
 have NZ:Hid (Nb ck Y9 Z):=NA.trans (by rw [hZ];exact Nb.set ck 1 vA _);have zZ:=NZ.2.1;obtain ⟨s4,s1,-⟩:=aa HSA;obtain ⟨-,y1,-,-,-,-,-,yf⟩:=CA.c7;obtain ⟨n0,n1',n2',n3,n4,n5,-⟩:=(aa SP Z NZ).1.cells;obtain ⟨k0,k1,k2,k3,k4,k5,k6,-⟩:=CZ.c7;rw [hZ] at n0 n1' n2' n3 n4 n5 k0 k1 k2 k3 k4 k5 k6;have CKZ:=ae CZ;clear CZ bL;go_wp2_with fail;rw [<-hZ];clear hZ s4 s1 y1 yf n0 n1' n2' n3 n4 n5 k0 k1 k2 k3 k4 k5 k6 e9;refine (ad4 JJ p4 m1 c4 q4 n1 d4 DW xC 10 id 0 R.2.e R.2.g x.pp np x.cp none 0 0 x.P [] Ai (ae rfl) Z (aa SP Z NZ).2.1 (aa SP Z NZ).2.2.2.2.rp (Rd.nil _) hnp kH jF (hG.below (aa SP Z NZ).2.2.2.2.bw) HG.p (aw7 (HV.ZO HID)) R.1 ⟨0,0,0,0,0,[],[],[]⟩ (ae (aa HEo id HID HNE)) m1 n1 DW xC).mono ?_;rintro r Kp ⟨p10,c10,q10,d10,t4,v4,t5,v5,t6,v6,rfl,-,b10⟩;dsimp only;obtain ⟨X10,Y10,ar3,ar2,CB,CR,bb,zz⟩:=ac5 Kp (.U R.1.e) (.U R.1.g) (.U R.1.x) (.I R.1.t) (.S p10 m1 c10) (.S q10 n1 d10) (.I 0) (.U 0) (.U 0) (.U 0) (.I 0) (.S t4 0 v4) (.S t5 0 v5) (.S t6 0 v6);have NY:Hid (Nb ck Y9 Y10):=NZ.trans (Nb.of (by omega) (ah b10 bb));have CKF:=ae (CKZ.below (by omega) (ah b10 bb));obtain ⟨k0,-,-,-,k4,-⟩:=CR.cells;rw [ar2,ar3] at k0 k4;clear CB CR bb zz b10;go_wp2;rw [<-ar3,<-ar2];go_roundw
 case rel=>exact ⟨k+1,id,by omega,by go_num,NY,CKF⟩
 case measure=>simp [intOf];omega}}
 {
 have aj9:=dy k m;obtain ⟨-,-,-,-,um,-⟩:=(aa SP wr HNB).2.2.2.2.bs.cells;go_wp2;go_roundw
 case rel=>exact ⟨i+1,by omega,by go_num,(aa SP wr HNB).2.2.2.2.b9⟩
 case measure=>simp [intOf];omega})}}
 {have bm:=dy i nl;go_wp2;go_ret;exact ⟨rfl,(aa HW wr (ah HB HBr)).2.2.2.1⟩})
end Go.Proofs.YtcfcafeciggjeaaGreatDoor
