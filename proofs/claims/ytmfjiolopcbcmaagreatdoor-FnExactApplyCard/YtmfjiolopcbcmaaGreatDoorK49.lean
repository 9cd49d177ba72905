import Derived.Test.YtmfjiolopcbcmaaGreatDoorK48
namespace Go.Proofs.YtmfjiolopcbcmaaGreatDoor
set_option maxHeartbeats 1600000
set_option linter.unusedVariables false
set_option linter.unusedSimpArgs false
set_option maxRecDepth 100000
open Go.ChangeShapes Go.WideShapes Go.ChangeAt Go.RowKit Go.Maps Go.Proofs.Tryz
variable {D:SD} {E F G K S:Int} {P V:List Int} {a a':Nat} {nd:aA} {ns:List aA} {ss:List aR}
section
variable {w0 w:World} {b bs bn:Nat} {D:SD} {SB NB HB UB:List Nat} {S F E G:Int} {pp:Option Addr} {np cp:Nat} {pq:Option Addr} {nv cv:Nat} {P V:List Int}
theorem FK (cx:tM w0 w b bs bn D SB NB HB UB S F E G pp np cp pq nv cv P V):Calls prog 30 #[.pointer (some ⟨b,0,none⟩),oP (5:Nat) S (.slice pp np cp) F (.slice pq nv cv) E G] w (oI w0 w b bs bn D (cG D (5:Nat) S F E G P V)):=by
 by_cases h0:nO D (rowOf 5).1 (rowOf 5).2.1 (Am 5 S F P.length V.length E G) (5:Nat) S P=0;{
 obtain ⟨hB,hs,hp⟩:=rA h0;obtain ⟨i,nd,e2,rfl,e4⟩:=jR (k:=5) (S:=S) (F:=F) (E:=E) (G:=G) (V:=V) (.inl rfl) (hp rfl);have eh:=aL e2;have eA:=(iq (by decide) (by decide) (by decide) h0).trans e4;have gd:=cx.gd;obtain ⟨nt,nh,nl⟩:=gd.ci.nt nd eh;have jy:=nt.pl;refine fy cx 5 (QI D nd S) (DQ (da D i 2) i) iQ 190 (.agg #[.int .u64 S,.string (aB nd.path)]) 252 251 (.agg #[.int .u64 S,.string (aB nd.path)]) (fun _=>⟨fun w' c=>Iw w' b bs bn D SB NB HB UB c.ps c.gd.pw (fun nd bf=>⟨(c.gd.wf.pb nd bf).2.1,(c.gd.wf.pb nd bf).2.2⟩) i nd e2 S c.hS _ (ae rfl),fun hC w' c=>(Ix w' b bs bn D SB NB HB UB c.ps i nd e2 c.gd.ci.so nt c.gd.ci.kd S).mono fun r w'' h=>jC.r h,?_⟩);rw [eA];unfold mn;simp only [e2];rw [if_pos (by decide)];unfold QI;by_cases q1:gw D.ns nd.path=[];{by_cases q2:jh nd S=false<;>simp [q1,q2]}
 {simp [q1]}};{exact fy cx 5 0 D iQ 190 (.agg #[.int .u64 S,.string (aB P)]) 252 251 (.agg #[.int .u64 S,.string (aB P)]) (fun h=>absurd h h0)}
theorem QU (cx:tM w0 w b bs bn D SB NB HB UB S F E G pp np cp pq nv cv P V):Calls prog 30 #[.pointer (some ⟨b,0,none⟩),oP (6:Nat) S (.slice pp np cp) F (.slice pq nv cv) E G] w (oI w0 w b bs bn D (cG D (6:Nat) S F E G P V)):=by
 by_cases h0:nO D (rowOf 6).1 (rowOf 6).2.1 (Am 6 S F P.length V.length E G) (6:Nat) S P=0;{obtain ⟨hB,hs,hp⟩:=rA h0;obtain ⟨i,nd,e2,rfl,e4⟩:=jR (k:=6) (S:=S) (F:=F) (E:=E) (G:=G) (V:=V) (.inr (.inl rfl)) (hp rfl);have eh:=aL e2;have eA:=(iq (by decide) (by decide) (by decide) h0).trans e4;have gd:=cx.gd;obtain ⟨nt,nh,nl⟩:=gd.ci.nt nd eh;have jy:=nt.pl;refine fy cx 6 0 D ⟨0,nd.owner,nd.aC,nd.gen,nd.mode,nd.value,[],[]⟩ 192 (.agg #[.string (aB nd.path)]) 239 254 (.agg #[]) (fun _=>⟨fun w' c=>jU _ rfl _ w',fun hC w' c=>(Vw w' b bs bn D SB NB HB UB c.ps i nd e2 jy _ (ae rfl) (c.gd.wf.vl nd eh)).mono fun r w'' ⟨p,c,w5,q1,q2,q3,q4,q5⟩=>aK2 rfl q1 q2 q3 q4 q5,?_⟩);rw [eA];unfold mn;simp only [e2];rw [if_neg (by decide),if_pos (by decide),if_pos trivial]};{exact fy cx 6 0 D iQ 192 (.agg #[.string (aB P)]) 239 254 (.agg #[]) (fun h=>absurd h h0)}
theorem QS (cx:tM w0 w b bs bn D SB NB HB UB S F E G pp np cp pq nv cv P V):Calls prog 30 #[.pointer (some ⟨b,0,none⟩),oP (7:Nat) S (.slice pp np cp) F (.slice pq nv cv) E G] w (oI w0 w b bs bn D (cG D (7:Nat) S F E G P V)):=by
 by_cases h0:nO D (rowOf 7).1 (rowOf 7).2.1 (Am 7 S F P.length V.length E G) (7:Nat) S P=0;{
 obtain ⟨hB,hs,hp⟩:=rA h0;obtain ⟨i,nd,e2,rfl,e4⟩:=jR (k:=7) (S:=S) (F:=F) (E:=E) (G:=G) (V:=V) (.inr (.inr (.inl rfl))) (hp rfl);have eh:=aL e2;have eA:=(iq (by decide) (by decide) (by decide) h0).trans e4;have gd:=cx.gd;obtain ⟨nt,nh,nl⟩:=gd.ci.nt nd eh;have jy:=nt.pl;refine fy cx 7 (JL nd S) (da { D with ns:=D.ns.set i { nd with value:=V } } i 1) iQ 194 (.agg #[.int .u64 S,.string (aB nd.path),.slice pq nv cv]) 256 255 (.agg #[.int .u64 S,.string (aB nd.path),.slice pq nv cv]) (fun _=>⟨fun w' c=>TI w' b bs bn D SB NB HB UB c.ps i nd e2 jy S c.hS (.slice pq nv cv) pq nv cv _ (ae rfl),fun hC w' c=>(TJ w' b bs bn D SB NB HB UB c.ps i nd e2 c.gd.ci.so nt S pq nv cv V c.hV).mono fun r w'' h=>jC.r h,?_⟩);rw [eA];unfold mn;simp only [e2];rw [if_neg (by decide),if_neg (by decide),if_pos (by decide),OK (gd.ho nd eh).1];by_cases q1:nd.mode=1/\nd.holders.headD 0≠S
 {rw [if_pos q1,if_pos q1];rfl};{rw [if_neg q1,if_neg q1];rfl}};{exact fy cx 7 0 D iQ 194 (.agg #[.int .u64 S,.string (aB P),.slice pq nv cv]) 256 255 (.agg #[.int .u64 S,.string (aB P),.slice pq nv cv]) (fun h=>absurd h h0)}
theorem MB (cx:tM w0 w b bs bn D SB NB HB UB S F E G pp np cp pq nv cv P V):Calls prog 30 #[.pointer (some ⟨b,0,none⟩),oP (8:Nat) S (.slice pp np cp) F (.slice pq nv cv) E G] w (oI w0 w b bs bn D (cG D (8:Nat) S F E G P V)):=by
 by_cases h0:nO D (rowOf 8).1 (rowOf 8).2.1 (Am 8 S F P.length V.length E G) (8:Nat) S P=0;{
 obtain ⟨hB,hs,hp⟩:=rA h0;obtain ⟨i,nd,e2,rfl,e4⟩:=jR (k:=8) (S:=S) (F:=F) (E:=E) (G:=G) (V:=V) (.inr (.inr (.inr (.inl rfl)))) (hp rfl);have eh:=aL e2;have eA:=(iq (by decide) (by decide) (by decide) h0).trans e4;have gd:=cx.gd;obtain ⟨nt,nh,nl⟩:=gd.ci.nt nd eh;have jy:=nt.pl;have hF:F=1\/F=2:=by simp only [Am,rowOf,Sw,Bool.and_eq_true,decide_eq_true_eq] at hB;omega
 refine fy cx 8 (jF D nd S F) (lp D i S F).1 (lp D i S F).2 196 (.agg #[.int .u64 S,.string (aB nd.path),.int .i64 F]) 258 257 (.agg #[.int .u64 S,.string (aB nd.path),.int .i64 F]) (fun _=>⟨fun w' c=>Pp w' b bs bn D SB NB HB UB c.ps i nd e2 jy S c.hS F hF _ (ae rfl),?_,?_⟩);{
 intro hC w' c;rcases hF with rfl | rfl;{obtain ⟨q1,q2⟩:=Hq e2 (fun h=>List.length_eq_zero_iff.1 (((gd.ho nd eh).2 (by omega)).2.2 h)) hC;rw [q1];exact (Kl w' b bs bn D SB NB HB UB c.ps i nd e2 jy nh nl S c.hS ⟨gd.wf.g.1,q2⟩).mono fun r w'' h=>jC.r h};{
 rw [Hp e2 hC];have mG:nd.mode≠1:=fun e=>by unfold jF at hC;rw [if_pos rfl,if_pos e] at hC;split at hC<;>omega
 obtain ⟨q1,q2,-⟩:=(gd.ho nd eh).2 mG;exact (Kk w' b bs bn D SB NB HB UB c.ps i nd e2 jy nh nl S c.hS ⟨q1,q2⟩).mono fun r w'' h=>jC.r h}};rw [eA];unfold mn;simp only [e2];rw [if_neg (by decide),if_neg (by decide),if_neg (by decide),if_pos (by decide)];by_cases q1:jF D nd S F=0;{rw [if_pos q1]};{rw [if_neg q1,Kj e2 q1]}};{exact fy cx 8 0 D iQ 196 (.agg #[.int .u64 S,.string (aB P),.int .i64 F]) 258 257 (.agg #[.int .u64 S,.string (aB P),.int .i64 F]) (fun h=>absurd h h0)}
theorem FI (cx:tM w0 w b bs bn D SB NB HB UB S F E G pp np cp pq nv cv P V):Calls prog 30 #[.pointer (some ⟨b,0,none⟩),oP (9:Nat) S (.slice pp np cp) F (.slice pq nv cv) E G] w (oI w0 w b bs bn D (cG D (9:Nat) S F E G P V)):=by
 by_cases h0:nO D (rowOf 9).1 (rowOf 9).2.1 (Am 9 S F P.length V.length E G) (9:Nat) S P=0;{
 obtain ⟨hB,hs,hp⟩:=rA h0;obtain ⟨i,nd,e2,rfl,e4⟩:=jR (k:=9) (S:=S) (F:=F) (E:=E) (G:=G) (V:=V) (.inr (.inr (.inr (.inr (.inl rfl))))) (hp rfl);have eh:=aL e2;have eA:=(iq (by decide) (by decide) (by decide) h0).trans e4;have gd:=cx.gd;obtain ⟨nt,nh,nl⟩:=gd.ci.nt nd eh;have jy:=nt.pl;refine fy cx 9 (if nd.holders.contains S=true then 0 else 10) (df D i S) iQ 197 (.agg #[.int .u64 S,.string (aB nd.path)]) 260 259 (.agg #[.int .u64 S,.string (aB nd.path)]) (fun _=>⟨fun w' c=>Ha w' b bs bn D SB NB HB UB c.ps i nd e2 jy S c.hS _ (ae rfl),fun hC w' c=>by
   have sP:nd.holders.contains S=true:=by by_cases q:nd.holders.contains S=true;{exact q};{rw [if_neg q] at hC;omega}
   exact (Hb w' b bs bn D SB NB HB UB c.ps i nd e2 c.gd.ci.so nt S c.hS nh nl sP).mono fun r w'' h=>jC.r h,?_⟩)
 rw [eA];unfold mn;simp only [e2];rw [if_neg (by decide),if_neg (by decide),if_neg (by decide),if_neg (by decide),if_pos (by decide)];by_cases q1:nd.holders.contains S=true;{rw [if_pos q1,if_pos q1];rfl};{rw [if_neg q1,if_neg q1];rfl}};{exact fy cx 9 0 D iQ 197 (.agg #[.int .u64 S,.string (aB P)]) 260 259 (.agg #[.int .u64 S,.string (aB P)]) (fun h=>absurd h h0)}
theorem II (cx:tM w0 w b bs bn D SB NB HB UB S F E G pp np cp pq nv cv P V):Calls prog 30 #[.pointer (some ⟨b,0,none⟩),oP (11:Nat) S (.slice pp np cp) F (.slice pq nv cv) E G] w (oI w0 w b bs bn D (cG D (11:Nat) S F E G P V)):=by
 by_cases h0:nO D (rowOf 11).1 (rowOf 11).2.1 (Am 11 S F P.length V.length E G) (11:Nat) S P=0;{obtain ⟨hB,hs,hp⟩:=rA h0;obtain ⟨i,nd,e2,rfl,e4⟩:=jR (k:=11) (S:=S) (F:=F) (E:=E) (G:=G) (V:=V) (.inr (.inr (.inr (.inr (.inr rfl))))) (hp rfl);have eh:=aL e2;have eA:=(iq (by decide) (by decide) (by decide) h0).trans e4;have gd:=cx.gd;obtain ⟨nt,nh,nl⟩:=gd.ci.nt nd eh;have jy:=nt.pl;refine fy cx 11 0 { D with ns:=D.ns.set i { nd with watchers:=mi nd.watchers S } } iQ 201 (.agg #[.int .u64 S,.string (aB nd.path)]) 239 262 (.agg #[]) (fun _=>⟨fun w' c=>jU _ rfl _ w',fun hC w' c=>(JA w' b bs bn D SB NB HB UB c.ps i nd e2 jy nt.Rs nt.Bj S c.hS).mono fun r w'' h=>jC.r h,?_⟩);rw [eA];unfold mn;simp only [e2];rw [if_neg (by decide),if_neg (by decide),if_neg (by decide),if_neg (by decide),if_neg (by decide),if_pos trivial]};{exact fy cx 11 0 D iQ 201 (.agg #[.int .u64 S,.string (aB P)]) 239 262 (.agg #[]) (fun h=>absurd h h0)}
theorem IK (cx:tM w0 w b bs bn D SB NB HB UB S F E G pp np cp pq nv cv P V):Calls prog 30 #[.pointer (some ⟨b,0,none⟩),oP (10:Nat) S (.slice pp np cp) F (.slice pq nv cv) E G] w (oI w0 w b bs bn D (cG D (10:Nat) S F E G P V)):=by
 refine fy cx 10 0 D { iQ with n:=Mr D.ns P S E G } 199 (.agg #[.int .u64 S,.string (aB P),.int .u64 E,.int .u64 G]) 239 261 (.agg #[]) (fun h0=>⟨fun w' c=>jU _ rfl _ w',fun _ w' c=>(Ms w' b bs bn D SB NB HB UB c.ps P c.hB (by show _<=_;rw [c.eP];exact c.hp) (fun nd bf=>(c.gd.wf.pb nd bf).2.1) S c.hS E G _ (ae rfl)).mono fun r w'' h=>jC.r h,?_⟩);obtain ⟨hB,hs,hp⟩:=rA h0;rw [iq (by decide) (by decide) (by decide) h0,if_pos rfl,QQ (fun nd bf=>(cx.gd.ho nd bf).1)];rcases Gp (hp rfl) with hr | ⟨hr,hv,-⟩;{rw [tR (by decide)] at hr;cases hr};{unfold la;rw [hr,hv,if_neg (by simp),if_neg (by decide),if_pos (by decide)]}
theorem MC (cx:tM w0 w b bs bn D SB NB HB UB S F E G pp np cp pq nv cv P V):Calls prog 30 #[.pointer (some ⟨b,0,none⟩),oP (13:Nat) S (.slice pp np cp) F (.slice pq nv cv) E G] w (oI w0 w b bs bn D (cG D (13:Nat) S F E G P V)):=by
 refine fy cx 13 0 D { iQ with fS:=(nF D.ns P).map kG } 203 (.agg #[.string (aB P)]) 239 264 (.agg #[]) (fun h0=>⟨fun w' c=>jU _ rfl _ w',fun _ w' c=>(Pq w' b bs bn D SB NB HB UB c.ps c.gd.pw c.gd.wf.pb P c.hB _ (ae rfl) _ (ae rfl) (by have:=Co D.ns P;have:=c.gd.nl;omega)).mono fun r w'' h=>Rg.r rfl h,?_⟩);obtain ⟨hB,hs,hp⟩:=rA h0;rw [iq (by decide) (by decide) (by decide) h0,if_pos rfl,<-xP];rcases Gp (hp rfl) with hr | ⟨hr,hv,hn⟩;{unfold la;rw [hr,if_neg (by simp),if_neg (by decide),if_neg (by decide),if_neg (by simp),if_pos (by decide)]};{obtain ⟨i,nd,e1,e2,e3,-⟩:=J9 (hn rfl);unfold la;rw [hr,hv,if_neg (by simp),if_neg (by decide),if_neg (by decide),if_neg (by simp;omega),if_pos (by decide)]}
theorem FL (cx:tM w0 w b bs bn D SB NB HB UB S F E G pp np cp pq nv cv P V):Calls prog 30 #[.pointer (some ⟨b,0,none⟩),oP (4:Nat) S (.slice pp np cp) F (.slice pq nv cv) E G] w (oI w0 w b bs bn D (cG D (4:Nat) S F E G P V)):=by
 obtain ⟨j,hj,ej⟩:=Gv (jv P V (if F=1 then S else 0)) D.ns;refine fy cx 4 (Ax D P) { D with ns:=jM (jv P V (if F=1 then S else 0)) D.ns } iQ 188 (.agg #[.int .u64 S,.string (aB P),.bool (F==1),.slice pq nv cv]) 250 249 (.agg #[.int .u64 S,.string (aB P),.bool (F==1),.slice pq nv cv]) (fun h0=>⟨fun w' c=>Iy w' b bs bn D SB NB HB UB c.ps P c.hB np c.eP c.hp (fun nd bf=>(c.gd.wf.pb nd bf).2.1) S (F==1) pq nv cv _ (ae rfl),fun hC w' c=>?_,?_⟩);{
 obtain ⟨-,kc,-⟩:=sV (V:=V) (S:=S) (F:=F) hC;have hA:=Iz w' b bs bn D SB NB HB UB c.ps P S (F==1) pq nv cv V c.hV (by show _<=_;rw [c.eP];exact c.hp) (fun nd' bf e=>by have e5:=jc (c.gd.wf.pb nd' bf).2.1 c.hB e;have:=List.find?_eq_none.1 kc nd' bf;simp [e5] at this) c.gd.nl j hj
 refine hA.mono fun r w'' ⟨gN,hN,uN,h⟩=>?_;have e6:(if (F==1)=true then S else 0)=if F=1 then S else 0:=by by_cases q:F=1<;>simp [q]
 rw [e6] at h;rw [ej];exact jC.r h};{
 obtain ⟨hB,hs,hp⟩:=rA h0;rw [iq (by decide) (by decide) (by decide) h0];have e7:la D (4:Nat) S F E G P V=iT D P V S F:=by rcases Gp (hp rfl) with hr | ⟨hr,hv,-⟩;{rw [tR (by decide)] at hr;cases hr};{unfold la;rw [hr,hv,if_neg (by simp),if_pos (by decide)]}
 rw [e7];by_cases hC:Ax D P=0;{rw [if_pos hC,(sV hC).1]};{rw [if_neg hC,Fs hC]}}
theorem QV (cx:tM w0 w b bs bn D SB NB HB UB S F E G pp np cp pq nv cv P V):Calls prog 30 #[.pointer (some ⟨b,0,none⟩),oP K S (.slice pp np cp) F (.slice pq nv cv) E G] w (oI w0 w b bs bn D (cG D K S F E G P V)):=by
 by_cases h:1<=K/\K<=13;{obtain ⟨k,rfl⟩:∃ k:Nat,K=(k:Int):=⟨K.toNat,by omega⟩;rcases kinds (k:=k) (by omega) (by omega) with rfl | rfl | rfl | rfl | rfl | rfl | rfl | rfl | rfl | rfl | rfl | rfl | rfl;{exact MA cx};{exact ME cx};{exact IJ cx};{exact FL cx};{exact FK cx};{exact QU cx};{exact QS cx};{exact MB cx};{exact FI cx};{exact IK cx};{exact II cx};{exact Mz cx};{exact MC cx}};{exact QT cx (by omega)}
end
def NG (a:Nat) (nd:aA):Prop:=cT nd.path/\nd.path.length<=136/\nd.value.length<=40/\nd.holders.length<=a/\nd.watchers.length<=a/\nd.holders.Pairwise (·<·)/\nd.watchers.Pairwise (·<·)
structure Fd (a:Nat) (ss:List aR) (ns:List aA):Prop where
 sl:ss.length<=a
 nl:ns.length<=a+150
 s1:ss.Pairwise (fun s s'=>s.1<s'.1)
 n1:(ns.map fun nd=>kI nd.path).Pairwise (·<·)
 s2:∀ s∈ss,(0<=s.1/\s.1<18446744073709551616)/\s.2.2.length<=8/\∀ e∈s.2.2,e.2.length<=136
 n2:∀ nd∈ns,NG a nd
theorem NG.mono (h:NG a nd) (ha:a<=a'):NG a' nd:=⟨h.1,h.2.1,h.2.2.1,by have:=h.2.2.2.1;omega,by have:=h.2.2.2.2.1;omega,h.2.2.2.2.2⟩
theorem Fd.mono (h:Fd a ss ns) (ha:a<=a'):Fd a' ss ns:=⟨by have:=h.sl;omega,by have:=h.nl;omega,h.s1,h.n1,h.s2,fun nd bf=>(h.n2 nd bf).mono ha⟩
theorem Fd.of {e g x t:Int} (h:ng e g x t ss ns=true) (hF:DP ss ns):Fd 50 ss ns:=by
 have h':=h;unfold ng at h';simp only [Bool.and_eq_true,decide_eq_true_eq] at h';obtain ⟨⟨-,-,-,-,-,l1,l2⟩,a1,a2⟩:=h';refine ⟨l1,l2,hF.s1,hF.n1,fun s hs=>?_,fun nd bf=>?_⟩;{obtain ⟨-,-,q⟩:=uJ a1 hs;unfold gF at q;simp only [Bool.and_eq_true,decide_eq_true_eq,List.all_eq_true,List.mem_range] at q;refine ⟨(hF.s2 s hs).1,q.1,fun e he=>?_⟩;obtain ⟨i,hi⟩:=List.mem_iff_getElem?.1 he;have h1:=q.2 i (aM.1 hi).1;rw [List.getD_eq_getElem?_getD,hi,Option.getD_some] at h1;unfold jk at h1;split at h1;{simp only [Bool.and_eq_true,beq_iff_eq] at h1;omega};{simp only [Bool.and_eq_true] at h1;exact D6 h1.2.2}};{
 obtain ⟨i,hi⟩:=List.mem_iff_getElem?.1 bf;obtain ⟨-,q2,q3⟩:=qU a2 hi;obtain ⟨f1,f2,f3,f4,f5,f6,f7⟩:=hF.n2 nd bf;have hv:=BU a2 hi;have key:∀ ids:List Int,ids.Pairwise (·<·)->fV ss ids=true->ids.length<=50:=fun ids hp hk=>by
  have:=Gu ids (ss.map (·.1)) (iW hp) fun i hi=>by obtain ⟨z,hz,e⟩:=vd hk i hi;exact List.mem_map.2 ⟨z,hz,e⟩
  rw [List.length_map] at this;omega
 have sk:nd.value.length<=40:=by have ua:=(aM.1 hi).1;have:=List.all_eq_true.1 a2 i (List.mem_range.2 ua);unfold ja at this;rw [List.getD_eq_getElem?_getD,hi,Option.getD_some] at this;simp only [Bool.and_eq_true,decide_eq_true_eq] at this;omega
 exact ⟨f1,D6 hv,sk,key _ f6 q2,key _ f7 q3,f6,f7⟩}
theorem Fd.Qw (h:Fd a ss ns) (id:Int) {ev:Ev} (he:ev.2.length<=136):Fd a (lx ss id ev) ns:=by
 refine ⟨by unfold lx;rw [List.length_map];exact h.sl,h.nl,?_,h.n1,fun s hs=>?_,h.n2⟩;{have:=h.s1;rw [<-List.pairwise_map (f:=fun s:aR=>s.1) (R:=(·<·))] at this ⊢;rw [sA];exact this};{obtain ⟨s0,h0,rfl⟩:=List.mem_map.1 hs;obtain ⟨q1,q2,q3⟩:=h.s2 s0 h0;split;{refine ⟨q1,xH ev q2,fun e Se=>?_⟩;simp only [iY] at Se;split at Se;{rcases List.mem_append.1 Se with h1 | h1;{exact q3 e h1};{simp at h1;rw [h1];exact he}};{split at Se;{rcases List.mem_append.1 Se with h1 | h1;{exact q3 e h1};{simp at h1;rw [h1];simp}};{exact q3 e Se}}};{exact ⟨q1,q2,q3⟩}}
theorem Fd.Ru {ev:Ev} (he:ev.2.length<=136):∀ (ids:List Int) {ss:List aR},Fd a ss ns->Fd a (jD ss ids ev) ns
 | [],ss,h=>h
 | x::r,ss,h=>Fd.Ru he r (h.Qw x he)
theorem Fd.Ej (h:Fd a ss ns) {k:Nat} {nd':aA} (hk:ns[k]?=some nd) (hp:nd'.path=nd.path) (hn:NG a nd'):Fd a ss (ns.set k nd'):=by
 refine ⟨h.sl,by rw [List.length_set];exact h.nl,h.s1,?_,h.s2,fun x hx=>?_⟩;{
 have e:(ns.set k nd').map (fun nd=>kI nd.path)=ns.map fun nd=>kI nd.path:=by have:=congrArg (List.map kI) (kV hk hp);rw [List.map_map,List.map_map] at this;exact this
 rw [e];exact h.n1};{rcases List.mem_or_eq_of_mem_set hx with hx | rfl;{exact h.n2 x hx};{exact hn}}
theorem Fd.tell (h:Fd a D.ss D.ns) (k:Nat) (kd:Int):Fd a (da D k kd).ss (da D k kd).ns:=by
 unfold da;cases hk:D.ns[k]? with
 | none=>exact h
 | some nd=>
  have hn:=h.n2 nd (aL hk);exact Fd.Ru hn.2.1 _ (h.Ej hk rfl ⟨hn.1,hn.2.1,hn.2.2.1,hn.2.2.2.1,by simp,hn.2.2.2.2.2.1,List.Pairwise.nil⟩)
theorem Fd.rm (h:Fd a D.ss D.ns) (k:Nat):Fd a (DQ D k).ss (DQ D k).ns:=
 ⟨h.sl,Nat.le_trans (List.Sublist.length_le (List.eraseIdx_sublist _ _)) h.nl,h.s1,h.n1.sublist ((List.eraseIdx_sublist _ _).map _),h.s2,fun nd bf=>h.n2 nd (List.mem_of_mem_eraseIdx bf)⟩
theorem Fd.drop (h:Fd a D.ss D.ns) (k:Nat) (id:Int):Fd a (df D k id).ss (df D k id).ns:=by
 unfold df;cases hk:D.ns[k]? with
 | none=>exact h
 | some nd=>
  have hn:=h.n2 nd (aL hk);simp only;split;{split;{exact Fd.tell (D:={ D with ns:=_ }) (h.Ej (nd':={ nd with holders:=[],mode:=0,aC:=0,gen:=0 }) hk rfl ⟨hn.1,hn.2.1,hn.2.2.1,Nat.zero_le _,hn.2.2.2.2.1,List.Pairwise.nil,hn.2.2.2.2.2.2⟩) k 3};{exact h.Ej hk rfl ⟨hn.1,hn.2.1,hn.2.2.1,Nat.le_trans (mT _ _) hn.2.2.2.1,hn.2.2.2.2.1,xy hn.2.2.2.2.2.1,hn.2.2.2.2.2.2⟩}};{exact h}
theorem Fd.cw (h:Fd a ss ns) (id:Int):Fd a ss (ns.map (Dp id)):=by
 refine ⟨h.sl,by rw [List.length_map];exact h.nl,h.s1,by rw [List.map_map];exact h.n1,h.s2,fun nd bf=>?_⟩;obtain ⟨y,hy,rfl⟩:=List.mem_map.1 bf;have hn:=h.n2 y hy;exact ⟨hn.1,hn.2.1,hn.2.2.1,hn.2.2.2.1,Nat.le_trans (mT _ _) hn.2.2.2.2.1,hn.2.2.2.2.2.1,xy hn.2.2.2.2.2.2⟩
theorem Fd.dm (id:Int):∀ (f k:Nat) {D:SD},Fd a D.ss D.ns->Fd a (dm id f k D).ss (dm id f k D).ns
 | 0,k,D,h=>by unfold Proofs.YtmfjiolopcbcmaaGreatDoor.dm;exact h
 | f+1,k,D,h=>by have hd:=Fd.drop h k id;unfold Proofs.YtmfjiolopcbcmaaGreatDoor.dm;split;{exact h};{split;{exact Fd.dm id f k (Fd.rm (Fd.tell hd k 2) k)};{exact Fd.dm id f (k+1) hd}}
theorem Fd.close (h:Fd a D.ss D.ns) (id:Int):Fd a (il D id).ss (il D id).ns:=by
 have h1:=Fd.dm id D.ns.length 0 (D:={ D with ns:=D.ns.map (Dp id) }) (h.cw id);exact ⟨Nat.le_trans (List.length_filter_le _ _) h1.sl,h1.nl,h1.s1.filter _,h1.n1,fun s hs=>h1.s2 s (List.mem_filter.1 hs).1,h1.n2⟩
theorem Ui (l m:List Int):RC l m=decide (¬ kI m<kI l/\kI m≠kI l):=by
 unfold RC;rw [T.l8,dW,dW];show (!decide (kI m<kI l)&&!(kI m==kI l))=_;by_cases h1:kI m<kI l<;>by_cases h2:kI m=kI l<;>simp [h1,h2]
theorem zy {x:aA}:∀ {l:List aA},x∈jM nd l↔x=nd\/x∈l
 | []=>by simp [jM]
 | y::r=>by rw [jM];split;{simp};{rw [List.mem_cons,zy,List.mem_cons];constructor;{rintro (h | h | h);{exact .inr (.inl h)};{exact .inl h};{exact .inr (.inr h)}};{rintro (h | h | h);{exact .inr (.inl h)};{exact .inl h};{exact .inr (.inr h)}}}
theorem ac1 {x y:List UInt8} (h1:¬ y<x) (h2:y≠x):x<y:=by
 rcases Decidable.em (x<y) with h | h;{exact h};{exact absurd (List.le_antisymm h1 h) (fun e=>h2 e.symm)}
theorem Ks :∀ {l:List aA},(l.map fun nd=>kI nd.path).Pairwise (·<·)->(∀ x∈l,kI x.path≠kI nd.path)->((jM nd l).map fun nd=>kI nd.path).Pairwise (·<·)
 | [],_,_=>by simp [jM]
 | y::r,h,bm=>by
  rw [List.map_cons,List.pairwise_cons] at h;obtain ⟨h1,h2⟩:=h;have hy:=bm y (by simp);rw [jM,Ui];split;{
 rename_i hl
 simp only [decide_eq_true_eq] at hl;have aU:kI nd.path<kI y.path:=ac1 hl.1 hl.2;rw [List.map_cons,List.map_cons,List.pairwise_cons,List.pairwise_cons];refine ⟨fun z hz=>?_,h1,h2⟩;rcases List.mem_cons.1 hz with rfl | hz;{exact aU};{exact List.lt_trans aU (h1 z hz)}};{
 rename_i hl
 simp only [decide_eq_true_eq] at hl;have aU:kI y.path<kI nd.path:=Decidable.byContradiction fun hh=>hl ⟨hh,hy⟩;rw [List.map_cons,List.pairwise_cons];refine ⟨fun z hz=>?_,Ks h2 (fun x hx=>bm x (by simp [hx]))⟩;obtain ⟨x,hx,rfl⟩:=List.mem_map.1 hz;rcases zy.1 hx with rfl | hx;{exact aU};{exact h1 _ (List.mem_map.2 ⟨x,hx,rfl⟩)}}
def RS (R:RP):Prop:=R.iy.length<=40/\(R.fS.length<=201/\∀ y∈R.fS,y.length<=136)/\R.gy.length<=8/\∀ e∈R.gy,e.2.length<=136
theorem RS.num (k i e g n:Int):RS ⟨k,i,e,g,n,[],[],[]⟩:=⟨Nat.zero_le _,⟨Nat.zero_le _,fun y hy=>by cases hy⟩,Nat.zero_le _,fun y hy=>by cases hy⟩
def AF (A:SD × RP):Prop:=Fd 51 A.1.ss A.1.ns/\RS A.2
theorem AF.same (h:Fd 50 D.ss D.ns) (k i e g n:Int):AF (D,⟨k,i,e,g,n,[],[],[]⟩):=⟨h.mono (by omega),RS.num _ _ _ _ _⟩
theorem Q6 {l m:List Int} (hl:cT l) (hm:cT m) (h:kI l=kI m):l=m:=jc hl hm (by unfold bj;exact congrArg Lit.string h)
theorem AF.create (h:Fd 50 D.ss D.ns) (hv:vp P=true) (hB:cT P) (hV:V.length<=40):AF (iT D P V S F):=by
 unfold iT;split;{exact AF.same h _ _ _ _ _};{
 split;{exact AF.same h _ _ _ _ _};{
 split;{exact AF.same h _ _ _ _ _};{
 rename_i h1 _ _
 have kc:fe D.ns P=none:=by simpa using h1
 refine ⟨⟨by have:=h.sl;show D.ss.length<=_;omega,by have:=h.nl;show (jM _ _).length<=_;rw [Cs];omega,h.s1,Ks h.n1 (fun x hx e=>?_),h.s2,fun x hx=>?_⟩,RS.num _ _ _ _ _⟩;{have:=List.find?_eq_none.1 kc x hx;exact this (by simpa using Q6 (h.n2 x hx).1 hB e)};{rcases zy.1 hx with rfl | hx;{exact ⟨hB,D6 hv,hV,Nat.zero_le _,Nat.zero_le _,List.Pairwise.nil,List.Pairwise.nil⟩};{exact (h.n2 x hx).mono (by omega)}}}}}
theorem AF.lock (h:Fd 50 D.ss D.ns) (k:Nat) (s fl:Int):AF (lp D k s fl):=by
 unfold lp;cases hk:D.ns[k]? with
 | none=>exact AF.same h _ _ _ _ _
 | some nd=>
  have hn:=h.n2 nd (aL hk);have DT:=hn.mono (a':=51) (by omega);have h':=h.mono (a':=51) (by omega);simp only;split;{exact AF.same h _ _ _ _ _};{split;{split;{exact AF.same h _ _ _ _ _};{exact ⟨h'.Ej hk rfl ⟨hn.1,hn.2.1,hn.2.2.1,by have:=Jz nd.holders s;have:=hn.2.2.2.1;show (mi _ _).length<=_;omega,DT.2.2.2.2.1,Gc hn.2.2.2.2.2.1,hn.2.2.2.2.2.2⟩,RS.num _ _ _ _ _⟩}};{split;{exact AF.same h _ _ _ _ _};{split;{exact AF.same h _ _ _ _ _};{exact ⟨h'.Ej hk rfl ⟨hn.1,hn.2.1,hn.2.2.1,by show [s].length<=_;simp,DT.2.2.2.2.1,by show [s].Pairwise _;simp,hn.2.2.2.2.2.2⟩,RS.num _ _ _ _ _⟩}}}}
theorem AF.node (h:Fd 50 D.ss D.ns) (k:Nat) (hV:K=7->V.length<=40):AF (mn D k K S F V):=by
 unfold mn;cases hk:D.ns[k]? with
 | none=>exact AF.same h _ _ _ _ _
 | some nd=>
  have hn:=h.n2 nd (aL hk);have DT:=hn.mono (a':=51) (by omega);have h':=h.mono (a':=51) (by omega);simp only;split;{split;{exact AF.same h _ _ _ _ _};{split;{exact AF.same h _ _ _ _ _};{exact ⟨Fd.rm (Fd.tell h' k 2) k,RS.num _ _ _ _ _⟩}}};{
 split;{exact ⟨h',hn.2.2.1,⟨Nat.zero_le _,fun y hy=>by cases hy⟩,Nat.zero_le _,fun y hy=>by cases hy⟩};{
 split;{
 split;{exact AF.same h _ _ _ _ _};{
 rename_i h7 _
 exact ⟨Fd.tell (D:={ D with ns:=_ }) (h'.Ej (nd':={ nd with value:=V }) hk rfl ⟨DT.1,DT.2.1,hV h7,DT.2.2.2⟩) k 1,RS.num _ _ _ _ _⟩}};{split;{exact AF.lock h k S F};{split;{split;{exact ⟨Fd.drop h' k S,RS.num _ _ _ _ _⟩};{exact AF.same h _ _ _ _ _}};{exact ⟨h'.Ej hk rfl ⟨DT.1,DT.2.1,DT.2.2.1,DT.2.2.2.1,by have:=Jz nd.watchers S;have:=hn.2.2.2.2.1;show (mi _ _).length<=_;omega,DT.2.2.2.2.2.1,Gc hn.2.2.2.2.2.2⟩,RS.num _ _ _ _ _⟩}}}}}
theorem AF.rest (h:Fd 50 D.ss D.ns) (hB:cT P) (hV:K=4\/K=7->V.length<=40):AF (la D K S F E G P V):=by
 unfold la;split;{exact AF.same h _ _ _ _ _};{
 rename_i hp
 split;{
 rename_i h4
 have hr:jY K P=false:=tR (by omega);rw [hr] at hp;exact AF.create h (by simpa using hp) hB (hV (.inl h4))};{split;{exact AF.same h _ _ _ _ _};{split;{exact AF.same h _ _ _ _ _};{split;{refine ⟨h.mono (by omega),Nat.zero_le _,⟨?_,fun y hy=>?_⟩,Nat.zero_le _,fun y hy=>by cases hy⟩;{have:=Cn D.ns P;have:=h.nl;show (gw _ _).length<=_;omega};{obtain ⟨nd,bf,rfl⟩:=List.mem_map.1 hy;have:=(h.n2 nd (List.mem_filter.1 bf).1).2.1;rw [kG,List.length_drop];omega}};{exact AF.node h _ (fun e=>hV (.inr e))}}}}}
theorem AF.apply (h:Fd 50 D.ss D.ns) (hx:0<=D.x/\D.x<=4611686018427387904) (hxs:∀ s∈D.ss,s.1<=D.x) (hB:cT P):AF (cG D K S F E G P V):=by
 have h':=h.mono (a':=51) (by omega);unfold cG;split;{exact AF.same h _ _ _ _ _};{
 rename_i hf
 split;{unfold jZ;split;{exact AF.same h _ _ _ _ _};{split;{exact AF.same h _ _ _ _ _};{refine ⟨⟨by have:=h.sl;show (D.ss++[_]).length<=_;rw [List.length_append];simp;omega,h'.nl,?_,h.n1,fun s hs=>?_,h'.n2⟩,RS.num _ _ _ _ _⟩;{show List.Pairwise _ (D.ss++[_]);rw [List.pairwise_append];refine ⟨h.s1,by simp,fun a ha c hc=>?_⟩;simp at hc;have:=hxs a ha;rw [hc];show a.1<D.x+1;omega};{rcases List.mem_append.1 hs with hs | hs;{exact h.s2 s hs};{simp at hs;rw [hs];exact ⟨by show 0<=D.x+1/\D.x+1<_;omega,Nat.zero_le _,fun e he=>by cases he⟩}}}}};{
 split;{exact AF.same h _ _ _ _ _};{
 have jw:∀ (k:Nat) (s:aR) (d:Int) (q:List Ev),D.ss[k]?=some s->q.length<=8->(∀ e∈q,e.2.length<=136)->Fd 51 (D.ss.set k (s.1,d,q)) D.ns:=fun k s d q hk q1 q2=>by
  refine ⟨by rw [List.length_set];exact h'.sl,h'.nl,?_,h.n1,fun x hx=>?_,h'.n2⟩;{
 have e:(D.ss.set k (s.1,d,q)).map (·.1)=D.ss.map (·.1):=by rw [List.map_set];exact jW (by rw [List.getElem?_map,hk];rfl)
 have:=h.s1;rw [<-List.pairwise_map (f:=fun s:aR=>s.1) (R:=(·<·))] at this ⊢;rw [e];exact this};{rcases List.mem_or_eq_of_mem_set hx with hx | rfl;{exact h.s2 x hx};{exact ⟨(h.s2 s (aL hk)).1,q1,q2⟩}}
 split;{
 unfold oU;cases hk:D.ss[(ni D.ss S).toNat]? with
 | none=>exact AF.same h _ _ _ _ _
 | some s=>
  have q:=h.s2 s (aL hk);simp only;split;{exact ⟨jw _ s _ _ hk q.2.1 q.2.2,RS.num _ _ _ _ _⟩};{exact AF.same h _ _ _ _ _}};{
 split;{exact ⟨Fd.close h' S,RS.num _ _ _ _ _⟩};{
 split;{
 unfold Gn;cases hk:D.ss[(ni D.ss S).toNat]? with
 | none=>exact AF.same h _ _ _ _ _
 | some s=>
  have q:=h.s2 s (aL hk);exact ⟨jw _ s _ _ hk (Nat.zero_le _) (fun e he=>by cases he),Nat.zero_le _,⟨Nat.zero_le _,fun y hy=>by cases hy⟩,q.2.1,q.2.2⟩};{refine AF.rest h hB (fun hK=>?_);rcases hK with rfl | rfl<;>· simp [Jr,Am,Sw,rowOf] at hf;omega}}}}}}
end Go.Proofs.YtmfjiolopcbcmaaGreatDoor
