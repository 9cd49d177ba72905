import Derived.Test.YtmfjiolopcbcmaaGreatDoorK14
import Derived.Test.YtmfjiolopcbcmaaGreatDoorK18
import Derived.Lib.ConvBytes
namespace Go.Proofs.YtmfjiolopcbcmaaGreatDoor
set_option maxHeartbeats 6400000
set_option linter.unusedVariables false
set_option linter.unusedSimpArgs false
set_option maxRecDepth 100000
open Go.ChangeShapes Go.WideShapes Go.ChangeAt Go.RowKit Go.Proofs.Tryz
variable {A:List Lf} {B M N:Nat} {l ss xs:List Int} {v:Value} {w w':World}
theorem xQ (X:World) (v0:Value) (l0:List Int) (N:Nat) (en:Hid (l0.length=N)) (r0:Rd X v0 l0) (hl:N<=4194304) :
  Calls prog 130 #[.slice (some ⟨X.heap.size,0,none⟩) 1 1] (X.alloc (.cells #[v0] 27)) fun e w'=>∃ p' c',e=.returned (.slice p' N c')/\Own X.heap.size w' (.slice p' N c') l0/\Below X.heap.size X w':=by
 have ba:Below X.heap.size X (X.alloc (.cells #[v0] 27)):=ar.alloc ay _;refine (u9 X.heap.size [v0] [l0] l0 N 1 rfl (by show _=_;simp [cat]) en _ ⟨rfl,fun j v x e1 e2=>?_⟩ hl (by omega)).mono ?_;{
 match j,e1,e2 with
 | 0,e1,e2=>simp at e1 e2;subst e1 e2;exact ⟨by simp,r0.below ba⟩}
 {rintro e w' ⟨p',c',rfl,o,hb⟩;exact ⟨p',c',rfl,Own.mono o (by simp),ai ba hb⟩}
theorem vP (I D:Int) (p:Option Addr) (c n:Nat) (Q:List Ev) (en:Hid (Q.length=n)) (w:World) (h:iO w (.slice p n c) Q) (hn:n<=1048576) (Za:Hid (∀ e∈Q,e.2.length<=1048576)) :
  Calls prog 81 #[.agg #[.int .u64 I,.int .i64 D,.slice p n c]] w fun r w'=>∃ p' c' A,r=.returned (.agg #[.int .u64 I,.int .i64 D,.slice p' n c'])/\iO w' (.slice p' n c') Q/\kJ w' (.slice p' n c') Q A/\jJ w.heap.size w' A/\Below w.heap.size w w':=by
 obtain ⟨ie,UT,jG,gi,gP⟩:=info_parts Tryz.infoEv;have HR:=ae fun (w':World) (hb:Below w.heap.size w w')=>h.below hb;clear h;obtain ⟨W,hW⟩:=ax (w.alloc (.cells #[.int .u64 I,.int .i64 D,.slice p n c] 95));have bW:Below w.heap.size w W:=by rw [hW];exact ar.alloc ay _
 have zW:W.heap.size=w.heap.size+1:=by rw [hW];simp
 have k0:W.cell? ⟨w.heap.size,0,none⟩=some (.int .u64 I):=by rw [hW];simp
 have k1:W.cell? ⟨w.heap.size,1,none⟩=some (.int .i64 D):=by rw [hW];simp
 have k2:W.cell? ⟨w.heap.size,2,none⟩=some (.slice p n c):=by rw [hW];simp
 go_enter func81,ntmps81;go_wp2_with fail;obtain ⟨W2,gr⟩:=ax (W.alloc (.cells #[.int .u64 0,.int .i64 0,.slice none 0 0] 95));have Q7:Below W.heap.size W W2:=by rw [gr];exact ar.alloc ay _
 have zW2:W2.heap.size=w.heap.size+2:=by rw [gr];simp;omega
 have Fj:ah W2 (w.heap.size+1) [.int .u64 0,.int .i64 0,.slice none 0 0]:=by rw [gr,show w.heap.size+1=W.heap.size by omega];exact ah.alloc W #[.int .u64 0,.int .i64 0,.slice none 0 0] _
 rw [<-hW,<-gr];have b2:=ai bW Q7;have HK:=ae (ag (af k0 Q7) (ag (af k1 Q7) (af k2 Q7)));have Of:=ae Fj;clear hW gr Q7 k0 k1 k2 bW zW Fj
 go_loopw [3,9] (fun ov iv wr=>∃ (k:Nat) (Ls:List (List Lf)),k<=n/\iv=.int .i64 k/\Hid (dM Aq 147 2 W2.heap.size wr ov (Q.take k) Ls)/\Below W2.heap.size W2 wr) (fun _ iv _=>n-(intOf iv).toNat)
 case atStart=>exact ⟨0,[],Nat.zero_le _,rfl,dM.nil _ _ _ _ _,Below.refl _ _⟩
 case round =>(
 obtain ⟨k,Ls,hk,rfl,ho,aE⟩:=hrel;have BB:=ai b2 aE;by_cases aU:k<n;{
 have aV:(k:Int)<(n:Int):=by omega
 have bH:k<Q.length:=by rw [aa en];exact aU
 obtain ⟨⟨K,P⟩,hy⟩:∃ y,Q[k]?=some y:=⟨_,aH bH⟩;obtain ⟨b,o,rfl,Qd,u,Lb,vk,oE⟩:∃ b o,p=some ⟨b,o,none⟩/\wr.cell? ⟨b,o+k*2,none⟩=some (.int .i64 K)/\∃ u,wr.cell? ⟨b,o+k*2+1,none⟩=some u/\Rd wr u P/\dh u:=by obtain ⟨p',c',ev,hd⟩:=aa HR _ BB;simp only [Value.slice.injEq] at ev;obtain ⟨rfl,-,-⟩:=ev;rcases hd with h0 | ⟨b,o,h1,h2⟩;{rw [h0] at bH;simp at bH};{exact ⟨b,o,h1,h2 k _ hy⟩}
 obtain ⟨pp,pc,m,rfl,em⟩:=vk.ed;have hm:m<=1048576:=by rw [<-aa em];exact aa Za _ (aL hy)
 have Rm:=ae vk;have HY:=ae hy;clear vk oE hy bH;go_wp2_with fail;obtain ⟨X,hX⟩:=ax (wr.alloc (.cells #[.int .i64 K,.slice pp m pc] 147));have WY:Below wr.heap.size wr X:=by rw [hX];exact ar.alloc ay _
 have e0:X.cell? ⟨wr.heap.size,0,none⟩=some (.int .i64 K):=by rw [hX];simp
 have e1:X.cell? ⟨wr.heap.size,1,none⟩=some (.slice pp m pc):=by rw [hX];simp
 obtain ⟨V,hV⟩:=ax X.drew;have hbV:Below wr.heap.size wr V:=by rw [hV];exact WY.drew
 rw [<-hX];refine wp_region_noPanic ?_;refine wp_region_held_drew (S:=fun w'=>w'.cell? ⟨wr.heap.size,0,none⟩=some (.int .i64 K)/\w'.cell? ⟨wr.heap.size,1,none⟩=some (.slice pp m pc)) (by kernel_rfl) (by exact ⟨e0,e1⟩) (fun hS=>?_);rw [<-hV] at hS ⊢;have KV:=ae hS;have zV:wr.heap.size<V.heap.size:=World.block_lt_of_cell? V _ hS.1;have z2r:=aE.size;clear hX WY e0 e1 hV Qd Lb;have OV:=ae (ho.below Aq.aN hbV);have HU3:=ae fun b hb=>(ho.lt.1 b hb).2;have rV:=ae (Rm.below hbV);clear ho;refine gD 0 1 2 3 hS ?_;refine tn 4 hS ?_;refine bR 5 fun KK hK=>?_;go_simp;have S5:=(Below.refl V.heap.size V).alloc ay (.cells #[.slice pp m pc] 27);refine bM hK (by exact ⟨af KV.1 S5,af KV.2 S5⟩) fun hS=>?_;clear hK KK;refine bR 6 fun KK hK=>?_;refine iG (xQ V (.slice pp m pc) P m em rV (by omega)) ?_;rintro r v1 ⟨p6,c6,rfl,o6,Ah⟩;refine ⟨_,rfl,?_⟩;have K6:=ae (ag (af KV.1 Ah) (af KV.2 Ah));refine bM hK (by exact K6) fun hS=>?_;clear hK KK S5;have O6:=ae o6;have B6:=ae Ah;clear o6 Ah;refine tn 7 hS ?_;refine bR 8 fun KK hK=>?_;go_simp;have A8:=(Below.refl v1.heap.size v1).alloc ay (.cells #[.int .i64 K,.slice p6 m c6] 147);refine hK.out _ _ (by exact ⟨af K6.1 A8,af K6.2 A8⟩) (fun hS=>?_);clear hK KK;obtain ⟨Z,hZ⟩:=ax (v1.alloc (.cells #[.int .i64 K,.slice p6 m c6] 147));have hcZ:∀ j u,[Value.int .i64 K,.slice p6 m c6][j]?=some u->Z.cell? ⟨v1.heap.size,j,none⟩=some u:=fun j u hu=>by have:=(ah.alloc v1 #[.int .i64 K,.slice p6 m c6] 147).1 j u (by simpa using hu);rw [hZ];exact this
 rw [<-hZ] at A8 hS ⊢;have bVZ:Below V.heap.size V Z:=ai B6 A8;have OZ:=OV.below Aq.aN bVZ;obtain ⟨lb,q1,q2,q3,q4⟩:=JO (kd:=.u8) (Own.below O6 A8);have elz:Aq Z (K,P) [.int .i64 K,.slice p6 m c6] lb:=⟨p6,c6,by rw [aa em],by rw [aa em];exact (Own.below (aa O6) A8).rd,by rw [aa em];exact ⟨_,_,_,rfl,(Own.below (aa O6) A8).cap,(Own.below (aa O6) A8).vR⟩,by rw [aa em];exact q1⟩;obtain ⟨cs,g1,g2,g3,g4,g5,g6,g7⟩:=id OZ;have hlV:=OV.lt;have hle:(Q.take k).length<=1048576:=by rw [List.length_take];omega
 have z9:W2.heap.size<=Z.heap.size:=by have:=bVZ.size;omega
 clear hZ
 (try simp only [Act.put,xa,xb,xc])
 refine bR 9 fun KK hK=>?_;refine eX (by rfl) _ _ 37 (by rfl) W2.heap.size 147 ie _ 2 32 underlying37 UT jG gi gP rfl (by decide) u3 _ _ (by rfl) g4 v1.heap.size 1 1 [.int .i64 K,.slice p6 m c6] (by rfl) rfl hcZ (fun u hu=>by simp at hu;rcases hu with rfl | rfl<;>rfl) (by unfold maxLen;omega) (by omega) z9 ?_;intro v' w9 dN hg ku;have sn:=dM.snoc g1 g2 g3 g5 g6 g7 Aq.aN elz rfl q2 (by omega) (fun a ha=>(hlV.2 a ha).2) (fun b hb=>(hlV.1 b hb).2) dN hg ku;rw [<-kU (aa HY)] at sn;have dR:Below W2.heap.size W2 w9:=(ai (ai aE hbV) bVZ).grown hg z9 (fun b hb=>(hlV.1 b hb).1);have K9:w9.cell? ⟨wr.heap.size,0,none⟩=some (.int .i64 K)/\w9.cell? ⟨wr.heap.size,1,none⟩=some (.slice pp m pc):=by
  have bm:some wr.heap.size≠u3.ownBlock:=fun e=>by have:=aa HU3 _ e.symm;omega
  exact ⟨hg.cell hS.1 bm,hg.cell hS.2 bm⟩
 refine bM hK (by exact K9) fun hS=>?_;clear hK KK;refine tn 10 hS ?_;refine wpAnyH_done (by kernel_rfl) ?_ _;refine bc ?_;have SN:=ae sn;clear hS sn dN hg ku g1 g2 g3 g4 g5 g6 g7 elz q1 q2 q3 q4 hcZ OZ hlV;go_wp2;go_roundw
 case rel=>exact ⟨k+1,_,by omega,by go_num,SN,dR⟩
 case measure=>simp [intOf];omega}
 {
 have aV:¬ (k:Int)<(n:Int):=by omega
 have ui:k=n:=by omega
 subst ui;have o2:=aa ho;rw [List.take_of_length_le (by rw [aa en];exact Nat.le_refl _)] at o2;obtain ⟨Ja,A,Ho,AH⟩:=o2.ev;obtain ⟨pv,cv,rfl,-⟩:=id Ja;rw [aa en] at Ja Ho ⊢;obtain ⟨q0,q1,q2⟩:=aa HK;have c0:=af q0 aE;have c1:=af q1 aE;have Fj:=Of.below (by omega) aE;have r0:=Fj.1 0 _ rfl;have r1:=Fj.1 1 _ rfl;have r2:=Fj.1 2 _ rfl;have rf:=Fj.2;have bm:¬ w.heap.size+1=w.heap.size:=by omega
 have RD:=ae (ag Ja (ag Ho AH));have pR:=aE.size;clear Ja Ho AH o2 q0 q1 q2 Fj;go_wp2;obtain ⟨Ja,Ho,AH⟩:=aa RD;obtain ⟨Z,hZ⟩:=ax (((wr.setCell ⟨w.heap.size+1,0,none⟩ (.int .u64 I)).setCell ⟨w.heap.size+1,1,none⟩ (.int .i64 D)).setCell ⟨w.heap.size+1,2,none⟩ (.slice pv k cv));have hk:∀ a∈A,Z.heap[a.b]?=wr.heap[a.b]?:=fun a ha=>by have:=AH.lo a ha;rw [hZ];rw [dr _ _ _ _ (by simp;omega),dr _ _ _ _ (by simp;omega),dr _ _ _ _ (by simp;omega)]
 have WX:Below w.heap.size w Z:=by rw [hZ];exact ((BB.setCell (by simp) _).setCell (by simp) _).setCell (by simp) _
 refine bodyPost_ret (v:=.agg #[.int .u64 I,.int .i64 D,.slice pv k cv]) (by simp [results,results81,go_sem,r0,r1,r2]) rfl ⟨pv,cv,rfl,?_⟩;rw [<-hZ];exact ⟨Ja.bE Ho hk,A,kJ.aN Ho hk,(AH.aN hk).mono (by omega),WX⟩})
theorem yY (h:Q.Rf B w v ss):∃ p c A,v=.slice p ss.length c/\iA w (.slice p ss.length c) ss/\GW (.slice p ss.length c) ss A/\jJ B w A:=by
 rcases h with ⟨rfl,rfl⟩ | ⟨g,cap,rfl,hb,hl,hH⟩;{exact ⟨none,0,[],rfl,⟨none,0,rfl,.inl rfl⟩,⟨none,0,[],rfl,rfl,rfl,.inl rfl⟩,jJ.nil _ _⟩};{
 have hc:∀ i,i<ss.length->w.cell? ⟨g,0+i,none⟩=some (.int .u64 (ss.getD i 0))/\w.frozen? ⟨g,0+i,none⟩=false:=fun i hi=>by
  have:=hH i (by simpa using hi);simp only [List.getElem!_toArray] at this;rw [List.getD_eq_getElem?_getD,aH hi];have e:ss[i]! = ss[i]:=by simp [hi]
  first | (rw [e] at this;exact this) | simpa [hi] using this
 refine ⟨some ⟨g,0,none⟩,cap,(List.range ss.length).map fun i=>⟨g,0+i,.u64⟩,rfl,⟨_,_,rfl,.inr ⟨g,0,rfl,fun i hi=>(hc i hi).1⟩⟩,⟨some ⟨g,0,none⟩,cap,(List.range ss.length).map fun i=>[⟨g,0+i,.u64⟩],rfl,by simp,?_,.inr ⟨g,0,rfl,fun i x l' hx hl=>?_⟩⟩,⟨?_,fun a ha=>?_,fun a ha=>?_⟩⟩;{
 induction (List.range ss.length) with
 | nil=>rfl
 | cons i r ih=>rw [List.map_cons,List.map_cons,List.flatten_cons,<-ih];rfl}
 {
 obtain ⟨hi,e⟩:=aM.1 hl;simp at e;rw [<-e,Nat.mul_one,Nat.zero_add]
 rfl}
 {rw [List.map_map,List.Nodup,List.pairwise_map];exact List.nodup_range.imp (fun {i j} jd=>by simpa using jd)};{obtain ⟨i,hi,rfl⟩:=List.mem_map.1 ha;exact hb};{obtain ⟨i,hi,rfl⟩:=List.mem_map.1 ha;obtain ⟨h1,h2⟩:=hc i (by simpa using hi);exact ⟨⟨_,h1⟩,h2⟩}}
theorem l9:∀ {l m:List Int},l.Pairwise (·<·)->m.Pairwise (·<·)->(∀ x,x∈l↔x∈m)->l=m
 | [],[],_,_,_=>rfl
 | [],b::m,_,_,h=>absurd ((h b).2 (by simp)) (by simp)
 | a::l,[],_,_,h=>absurd ((h a).1 (by simp)) (by simp)
 | a::l,b::m,h1,h2,h=>by
  rw [List.pairwise_cons] at h1 h2;have wF:a=b:=by rcases List.mem_cons.1 ((h a).1 (by simp)) with e | e;{exact e};{rcases List.mem_cons.1 ((h b).2 (by simp)) with e' | e';{exact e'.symm};{have:=h2.1 a e;have:=h1.1 b e';omega}}
  subst wF;rw [l9 h1.2 h2.2 (fun x=>?_)];constructor;{intro hx;rcases List.mem_cons.1 ((h x).1 (by simp [hx])) with e | e;{have:=h1.1 x hx;omega};{exact e}};{intro hx;rcases List.mem_cons.1 ((h x).2 (by simp [hx])) with e | e;{have:=h2.1 x hx;omega};{exact e}}
theorem uF {D:DataW Unit} {s:List Int} (h:cI D s) (hs:s.Pairwise (·<·)) (ha:Q.Rr D ss):ss=s:=by
 refine l9 ha.lt hs fun x=>?_;rw [ha.mem x,h];constructor;{rintro ⟨i,hi,e⟩;simp only [Lit.int.injEq,true_and] at e;rw [e];exact hi};{intro hx;exact ⟨x,hx,rfl⟩}
structure KN (w:World) (g h u:Nat) (V:Value) (nd:aA):Prop where
 aF:w.heap[g]?=some (.cells #[V,.int .u64 nd.owner,.int .i64 nd.mode,.map (some h),.int .u64 nd.aC,.int .u64 nd.gen,.map (some u)] 119)
 val:Rd w V nd.value
 GC:∃ D,w.ownsMap Tryz.prog 22 unitElem h nd.holders.length D/\cI D nd.holders
 G9:∃ D,w.ownsMap Tryz.prog 22 unitElem u nd.watchers.length D/\cI D nd.watchers
structure PB (w:World) (M N:Nat) (v:Value) (xs:List Int) (A:List Lf):Prop where
 rd:Rd w v xs
 cap:dh v
 lv:qs v xs A
 ap:jJ M w A
 hi:∀ a∈A,a.b<N
structure PU (w:World) (M N:Nat) (v:Value) (xs:List Int) (A:List Lf):Prop where
 rd:iA w v xs
 lv:GW v xs A
 ap:jJ M w A
 hi:∀ a∈A,a.b<N
theorem PB.below (h:PB w M N v xs A) (hb:Below w.heap.size w w'):PB w' M N v xs A:=
 ⟨h.rd.below hb,h.cap,h.lv,h.ap.aN (fun a ha=>hb.block _ (h.ap.oz.lt ha)),h.hi⟩
theorem PU.below (h:PU w M N v xs A) (hb:Below w.heap.size w w'):PU w' M N v xs A:=
 ⟨h.rd.below hb,h.lv,h.ap.aN (fun a ha=>hb.block _ (h.ap.oz.lt ha)),h.hi⟩
theorem Own.pb {p:Option Addr} {n c:Nat} (h:Own B w (.slice p n c) l):∃ A,PB w B w.heap.size (.slice p n c) l A:=by
 obtain ⟨A,q1,q2,q3,q4⟩:=JO (kd:=.u8) h;exact ⟨A,h.rd,⟨_,_,_,rfl,h.cap,h.vR⟩,q1,q2,fun a ha=>q2.oz.lt ha⟩
theorem jJ.Rb {A2:List Lf} (h:jJ B w A) (h2:jJ B w A2) (hd:∀ a∈A,∀ a2∈A2,a.b≠a2.b):jJ B w (A++A2):=by
 refine ⟨?_,fun a ha=>?_,aP.app.2 ⟨h.oz,h2.oz⟩⟩;{rw [List.map_append,List.nodup_append];refine ⟨h.nd,h2.nd,fun x hx y hy=>?_⟩;obtain ⟨a,ha,rfl⟩:=List.mem_map.1 hx;obtain ⟨a2,qc,rfl⟩:=List.mem_map.1 hy;intro e;simp only [Prod.mk.injEq] at e;exact hd a ha a2 qc e.1};{rcases List.mem_append.1 ha with ha | ha;{exact h.lo a ha};{exact h2.lo a ha}}
theorem yy (hB:cT l) (j:Nat) (hj:j<l.length):(((aB l).data.toList.getD j 0).toNat:Int)=l.getD j 0:=by
 have US:j<(aB l).size:=by rw [dI];exact hj
 have h:=DA hB j US;rw [<-h];have hl:j<(aB l).data.toList.length:=by rw [fD];simpa using hj
 rw [List.getD_eq_getElem?_getD,aH hl]
 rfl
theorem GO (w:World) (hB:cT l) (hl:l.length<=1048576):∃ p' c' W A,(convert 9 27 (.string (aB l))).run prog w=.ok (.slice p' l.length c') W/\PB W w.heap.size W.heap.size (.slice p' l.length c') l A/\Below w.heap.size w W:=by
 have bS:=Lib.run_convert_string_bytes (P:=prog) w 9 27 5 (aB l) underlying9 underlying27 underlying5;rw [dI] at bS;obtain ⟨W,hW⟩:=ax (Lib.bytesWorld w 5 (aB l));have fH:W.heap.size=w.heap.size+1:=by rw [hW];exact Lib.bytesWorld_size _ _ _
 have bD:∀ j,j<l.length->W.cell? ⟨w.heap.size,0+j,none⟩=some (.int .u8 (l.getD j 0)):=fun j hj=>by rw [hW,Nat.zero_add,Lib.bytesWorld_cell _ _ _ _ (by rw [dI];exact hj),yy hB j hj]
 have Sc:∀ j,j<l.length->W.frozen? ⟨w.heap.size,0+j,none⟩=false:=fun j hj=>by
  have hn:=Lib.bytesWorld_at_new w 5 (aB l);have hs:j<(Lib.bytesCells w 5 (aB l)).size:=by simp only [Lib.bytesCells,Array.size_append,Array.size_map];have:(aB l).data.size=l.length:=dI l;omega
  rw [hW,Nat.zero_add];simp only [World.frozen?,hn];simp;omega
 have hb:Below w.heap.size w W:=by refine ⟨by rw [hW];rfl,by rw [hW];rfl,by rw [hW];rfl,by omega,fun k hk=>by rw [hW];exact Lib.bytesWorld_at_old _ _ _ _ hk⟩
 have oE:dh (.slice (some ⟨w.heap.size,0,none⟩) l.length (grownCap w l.length 0 5)):=⟨_,_,_,rfl,grownCap_ge _ _ _ _,grownCap_le_maxLen _ _ _ _ (by unfold maxLen;omega)⟩;rw [<-hW] at bS;refine ⟨_,_,_,(List.range l.length).map fun i=>⟨w.heap.size,0+i,.u8⟩,bS,⟨⟨_,_,rfl,.inr ⟨w.heap.size,0,rfl,bD⟩⟩,oE,⟨some ⟨w.heap.size,0,none⟩,_,(List.range l.length).map fun i=>[⟨w.heap.size,0+i,.u8⟩],rfl,by simp,?_,.inr ⟨w.heap.size,0,rfl,fun i x l' hx hl=>?_⟩⟩,⟨?_,fun a ha=>?_,fun a ha=>?_⟩,fun a ha=>?_⟩,hb⟩;{
 induction (List.range l.length) with
 | nil=>rfl
 | cons i r ih=>rw [List.map_cons,List.map_cons,List.flatten_cons,<-ih];rfl}
 {
 obtain ⟨hi,e⟩:=aM.1 hl;simp at e;rw [<-e,Nat.mul_one,Nat.zero_add]
 rfl}
 {rw [List.map_map,List.Nodup,List.pairwise_map];exact List.nodup_range.imp (fun {i j} jd=>by simpa using jd)};{obtain ⟨i,hi,rfl⟩:=List.mem_map.1 ha;exact Nat.le_refl _};{obtain ⟨i,hi,rfl⟩:=List.mem_map.1 ha;exact ⟨⟨_,bD i (by simpa using hi)⟩,Sc i (by simpa using hi)⟩};{obtain ⟨i,hi,rfl⟩:=List.mem_map.1 ha;simp only;omega}
theorem Eg {ops:Array Oper} {o:Oper} {a:Act} {K:Act->World->Prop} {Q:Exit->Act->World->Prop} {E:Prop} (kM:o.guard=none) (x:Operand) (E6:o.op=Op.convert 9 27 x) (l:List Int) (hx:a.eval x=.string (aB l)) (hB:cT l) (hl:l.length<=1048576)
  (hK:∀ p' c' w' A,PB w' w.heap.size w'.heap.size (.slice p' l.length c') l A->Below w.heap.size w w'->K (a.put o.dst (.slice p' l.length c')) w') :
  if Region.wanted o (yielded ops a.tmps)=true then Oper.wp prog o a w K Q else E:=by
 have hw:Region.wanted o (yielded ops a.tmps)=true:=by simp [Region.wanted,kM]
 rw [if_pos hw];obtain ⟨p',c',W,A,bS,hP,hb⟩:=GO w hB hl;unfold Oper.wp;simp only [execOp,E6,hx,Sem.run_bind,Sem.run_pure,Result.andThen_ok,bS,Result.andThen];exact hK _ _ _ _ hP hb
theorem lD.mk4 {nd:aA} {p0 p1 p4 p7:Option Addr} {c0 c1 c4 c7 M0 N0 M1 N1 M4 N4 M7 N7:Nat} {l0 l1 l4 l7:List Lf} (h0:PB w M0 N0 (.slice p0 nd.path.length c0) nd.path l0) (h1:PB w M1 N1 (.slice p1 nd.value.length c1) nd.value l1) (h4:PU w M4 N4 (.slice p4 nd.holders.length c4) nd.holders l4) (h7:PU w M7 N7 (.slice p7 nd.watchers.length c7) nd.watchers l7)
  (b0:B<=M0) (b1:B<=M1) (b4:B<=M4) (b7:B<=M7) (d01:N0<=M1\/N1<=M0) (d04:N0<=M4\/N4<=M0) (d07:N0<=M7\/N7<=M0) (d14:N1<=M4) (d17:N1<=M7) (d47:N4<=M7) :
  lD w nd [.slice p0 nd.path.length c0,.slice p1 nd.value.length c1,.int .u64 nd.owner,.int .i64 nd.mode,.slice p4 nd.holders.length c4,.int .u64 nd.aC,.int .u64 nd.gen,.slice p7 nd.watchers.length c7] (l0++(l1++(l4++l7)))/\jJ B w (l0++(l1++(l4++l7))):=by
 refine ⟨⟨p0,c0,p1,c1,p4,c4,p7,c7,l0,l1,l4,l7,rfl,rfl,⟨h0.rd,h0.cap,h0.lv⟩,⟨h1.rd,h1.lv⟩,⟨h4.rd,h4.lv⟩,⟨h7.rd,h7.lv⟩⟩,?_⟩;refine (h0.ap.mono b0).Rb ((h1.ap.mono b1).Rb ((h4.ap.mono b4).Rb (h7.ap.mono b7) fun a ha a2 qc e=>?_) fun a ha a2 qc e=>?_) fun a ha a2 qc e=>?_;{have:=h4.hi a ha;have:=h7.ap.lo a2 qc;omega};{rcases List.mem_append.1 qc with qc | qc;{have:=h1.hi a ha;have:=h4.ap.lo a2 qc;omega};{have:=h1.hi a ha;have:=h7.ap.lo a2 qc;omega}};{rcases List.mem_append.1 qc with qc | qc;{have:=h0.hi a ha;have:=h0.ap.lo a ha;have:=h1.hi a2 qc;have:=h1.ap.lo a2 qc;omega};{rcases List.mem_append.1 qc with qc | qc;{have:=h0.hi a ha;have:=h0.ap.lo a ha;have:=h4.hi a2 qc;have:=h4.ap.lo a2 qc;omega};{have:=h0.hi a ha;have:=h0.ap.lo a ha;have:=h7.hi a2 qc;have:=h7.ap.lo a2 qc;omega}}}
theorem J8 (g h u:Nat) (V:Value) (nd:aA) (w:World) (hk:KN w g h u V nd) (hh:nd.holders.Pairwise (·<·)) (hu:nd.watchers.Pairwise (·<·)) (l1:nd.path.length<=1048576) (l2:nd.value.length<=1048576) (l3:nd.holders.length<=1048576) (l4:nd.watchers.length<=1048576) (du:cT nd.path) :
  Calls prog 83 #[.pointer (some ⟨g,0,none⟩),.string (aB nd.path)] w fun r w'=>∃ c l,r=.returned (.agg c)/\lD w' nd c.toList l/\jJ w.heap.size w' l/\Below w.heap.size w w':=by
 obtain ⟨iB,sk,⟨D1,o1,s1⟩,⟨D2,o2,s2⟩⟩:=hk;obtain ⟨pv,cv,nv,rfl,ev⟩:=sk.ed;have hA7:mg w g (.slice pv nv cv) (.int .u64 nd.owner) (.int .i64 nd.mode) (.map (some h)) (.int .u64 nd.aC) (.int .u64 nd.gen) (.map (some u)):=⟨aq iB 0,aq iB 1,aq iB 2,aq iB 3,aq iB 4,aq iB 5,aq iB 6⟩;obtain ⟨W0,dT⟩:=ax (w.alloc (.cells #[.slice none 0 0,.slice none 0 0,.int .u64 0,.int .i64 0,.slice none 0 0,.int .u64 0,.int .u64 0,.slice none 0 0] 103));have b0:Below w.heap.size w W0:=by rw [dT];exact ar.alloc ay _
 have z0:W0.heap.size=w.heap.size+1:=by rw [dT];simp
 have r0:ah W0 w.heap.size [.slice none 0 0,.slice none 0 0,.int .u64 0,.int .i64 0,.slice none 0 0,.int .u64 0,.int .u64 0,.slice none 0 0]:=by rw [dT];exact ah.alloc w #[.slice none 0 0,.slice none 0 0,.int .u64 0,.int .i64 0,.slice none 0 0,.int .u64 0,.int .u64 0,.slice none 0 0] _
 have SZ1:=ae (Nat.le_trans o1.size_le l3);have SZ2:=ae (Nat.le_trans o2.size_le l4);obtain ⟨ow,mo,ep,ge,e1,e2,e3,e4⟩:∃ a b c d,nd.owner=a/\nd.mode=b/\nd.aC=c/\nd.gen=d:=⟨_,_,_,_,rfl,rfl,rfl,rfl⟩
 rw [e1,e2,e3,e4] at hA7;have HE:=ae (ag e1 (ag e2 (ag e3 e4)));clear e1 e2 e3 e4;go_enter func83,ntmps83;go_wp2_with fail;rw [<-dT];obtain ⟨v,vf⟩:=ax W0.drew;have bv:Below w.heap.size w v:=by rw [vf];exact b0.drew
 have zv:w.heap.size<v.heap.size:=by rw [vf];show w.heap.size<W0.heap.size;omega
 have R:Hid (ah v w.heap.size [.slice none 0 0,.slice none 0 0,.int .u64 0,.int .i64 0,.slice none 0 0,.int .u64 0,.int .u64 0,.slice none 0 0]):=by rw [vf];exact r0
 have S:=ae (hA7.below bv);refine wp_region_noPanic ?_;refine wp_region_held_drew (S:=fun w'=>mg w' g (.slice pv nv cv) (.int .u64 ow) (.int .i64 mo) (.map (some h)) (.int .u64 ep) (.int .u64 ge) (.map (some u))) (by kernel_rfl) (by rw [<-vf];exact aa S) (fun hS=>?_);rw [<-vf] at hS ⊢;have BW:=ae bv;have OH:=ae (o1.kept (az bv none) (by simp));have OU:=ae (o2.kept (az bv none) (by simp));have RV:=ae (sk.below bv);have T1:=ae s1;have T2:=ae s2;have HH:=ae hh;have HU:=ae hu;have HBY:=ae du;clear vf dT b0 z0 r0 iB sk o1 o2 hA7 s1 s2 hh hu du bv;refine fL 0 2 3 4 5 8 9 10 hS ?_;refine fL 11 12 13 14 15 16 17 18 hS ?_;refine fL 19 20 21 22 23 24 25 26 hS ?_;refine gD 27 29 30 31 hS ?_;refine tn 32 hS ?_
 iterate 5 (
  all_goals (first | refine fw [1] (cA (fun KK hK=>?_) AllReadyH.nil) | refine fw [1,6] (cA (fun KK hK=>?_) (cA (fun KK hK=>?_) AllReadyH.nil)) | refine fw [6] (cA (fun KK hK=>?_) AllReadyH.nil) | refine fw [1,7] (cA (fun KK hK=>?_) (cA (fun KK hK=>?_) AllReadyH.nil)) | refine fw [7] (cA (fun KK hK=>?_) AllReadyH.nil) | refine fw [1,28] (cA (fun KK hK=>?_) (cA (fun KK hK=>?_) AllReadyH.nil)) | refine fw [28] (cA (fun KK hK=>?_) AllReadyH.nil) | refine fw [1,33] (cA (fun KK hK=>?_) (cA (fun KK hK=>?_) AllReadyH.nil)) | refine fw [33] (cA (fun KK hK=>?_) AllReadyH.nil))
  all_goals (first
   | (
    refine Tag.go 1 ?_;refine Eg (by rfl) _ (by rfl) nd.path (by rfl) HBY l1 ?_;intro pC cC v' lC fC hb;have FC:=ae fC;clear fC)
   | (
    refine Tag.go 6 ?_;go_simp;obtain ⟨v',hv⟩:=ax (v.alloc (.cells #[.slice pv nv cv] 27));have hb:Below v.heap.size v v':=by rw [hv];exact ar.alloc ay _
    have HP:Hid (tc v' v.heap.size [.slice pv nv cv] [nd.value]):=⟨rfl,fun j y x q1 q2=>by
     match j,q1,q2 with
     | 0,q1,q2=>simp at q1 q2;subst q1 q2;exact ⟨by rw [hv];simp,RV.below hb⟩⟩
    rw [<-hv];obtain ⟨GB,hGB⟩:=ax v.heap.size;rw [<-hGB] at HP ⊢;clear hv hGB)
   | (
    refine Tag.go 7 ?_;refine iG (u9 GB [.slice pv nv cv] [nd.value] nd.value nd.value.length 1 rfl (by show _=_;simp [cat]) (by show _=_;rfl) _ (aa HP) (by omega) (by omega)) ?_;rintro r v' ⟨pJ,cJ,rfl,oJ,hb⟩;refine ⟨_,rfl,?_⟩;obtain ⟨lJ,fJ⟩:=Own.pb oJ;have FJ:=ae fJ;clear fJ oJ HP)
   | (
    refine Tag.go 28 ?_;refine iG (Q.lK h _ D1 _ OH SZ1) ?_;rintro r v' ⟨y,ss,rfl,DG,yW,hb⟩;refine ⟨_,rfl,?_⟩;rw [uF (aa T1) (aa HH) DG] at yW;obtain ⟨pH,cH,lH,rfl,q1,q2,q3⟩:=yY yW;have FH:Hid (PU v' v.heap.size v'.heap.size (.slice pH nd.holders.length cH) nd.holders lH):=⟨q1,q2,q3,fun a ha=>q3.oz.lt ha⟩;clear DG yW q1 q2 q3)
   | (
    refine Tag.go 33 ?_;refine iG (Q.lK u _ D2 _ OU SZ2) ?_;rintro r v' ⟨y,ss,rfl,DG,yW,hb⟩;refine ⟨_,rfl,?_⟩;rw [uF (aa T2) (aa HU) DG] at yW;obtain ⟨pU,cU,lU,rfl,q1,q2,q3⟩:=yY yW;have FU:Hid (PU v' v.heap.size v'.heap.size (.slice pU nd.watchers.length cU) nd.watchers lU):=⟨q1,q2,q3,fun a ha=>q3.oz.lt ha⟩;clear DG yW q1 q2 q3))
  all_goals (
   have S:=ae (S.below hb);have BW:=ae (ai BW hb);have OH:=ae (OH.kept (az hb none) (by simp));have OU:=ae (OU.kept (az hb none) (by simp));have RV:=ae (RV.below hb);have R:=ae (R.below (by omega) hb);have z:v.heap.size<=v'.heap.size:=hb.size
   try have HP:=ae (HP.below hb)
   try have FC:=ae (FC.below hb)
   try have FJ:=ae (FJ.below hb)
   try have FH:=ae (FH.below hb)
   try have FU:=ae (FU.below hb)
   refine bM hK (by exact S) fun hS=>?_;clear hK KK hb
   rename World=>v
   skip))
 all_goals (
  refine tn 34 hS ?_;have rc0:=R.1 0 _ rfl;have rc1:=R.1 1 _ rfl;have rc2:=R.1 2 _ rfl;have rc3:=R.1 3 _ rfl;have rc4:=R.1 4 _ rfl;have rc5:=R.1 5 _ rfl;have rc6:=R.1 6 _ rfl;have rc7:=R.1 7 _ rfl;have rf:=R.2;refine ry [35] (cn (fun KK hK=>?_) AllReadyH.nil);go_simp;obtain ⟨Z,hZ⟩:=ax ((((((((v.setCell ⟨w.heap.size,0,none⟩ (.slice pC nd.path.length cC)).setCell ⟨w.heap.size,1,none⟩ (.slice pJ nd.value.length cJ)).setCell ⟨w.heap.size,2,none⟩ (.int .u64 ow)).setCell ⟨w.heap.size,3,none⟩ (.int .i64 mo)).setCell ⟨w.heap.size,4,none⟩ (.slice pH nd.holders.length cH)).setCell ⟨w.heap.size,5,none⟩ (.int .u64 ep)).setCell ⟨w.heap.size,6,none⟩ (.int .u64 ge)).setCell ⟨w.heap.size,7,none⟩ (.slice pU nd.watchers.length cU));have UN:∀ b,b≠w.heap.size->Z.heap[b]?=v.heap[b]?:=fun b hb=>by
   rw [hZ]
   iterate 8 rw [dr _ _ _ _ hb]
  have cZ:=(ah.dC (ah.dC (ah.dC (ah.dC (ah.dC (ah.dC (ah.dC (ah.dC (aa R) 0 (by simp) (.slice pC nd.path.length cC)) 1 (by simp) (.slice pJ nd.value.length cJ)) 2 (by simp) (.int .u64 ow)) 3 (by simp) (.int .i64 mo)) 4 (by simp) (.slice pH nd.holders.length cH)) 5 (by simp) (.int .u64 ep)) 6 (by simp) (.int .u64 ge)) 7 (by simp) (.slice pU nd.watchers.length cU));rw [<-hZ] at cZ;have WX:Below w.heap.size w Z:=by rw [hZ];exact ((((((((BW.setCell ay _).setCell ay _).setCell ay _).setCell ay _).setCell ay _).setCell ay _).setCell ay _).setCell ay _)
  obtain ⟨en,apn⟩:=lD.mk4 (B:=w.heap.size+1) FC FJ FH FU (by omega) (by omega) (by omega) (by omega) (by omega) (by omega) (by omega) (by omega) (by omega) (by omega);have bH:∀ y∈lC++(lJ++(lH++lU)),Z.heap[y.b]?=v.heap[y.b]?:=fun y hy=>UN _ (by have:=apn.lo y hy;omega);have EN:=ae (ag (lD.aN _ Z _ _ _ en bH) (ag ((apn.aN bH).mono (B':=w.heap.size) (by omega)) WX));have SZg:mg Z g (.slice pv nv cv) (.int .u64 ow) (.int .i64 mo) (.map (some h)) (.int .u64 ep) (.int .u64 ge) (.map (some u)):=by
   have bm:g≠w.heap.size:=fun e=>by have h1:=R.1 0 _ rfl;have h2:=S.2.1;rw [e] at h2;have h3:=R.1 1 _ rfl;rw [h2] at h3;simp at h3
   obtain ⟨s0,s1,s2,s3,s4,s5,s6⟩:=aa S;have hz:=aj (UN g bm);exact ⟨(hz _).trans s0,(hz _).trans s1,(hz _).trans s2,(hz _).trans s3,(hz _).trans s4,(hz _).trans s5,(hz _).trans s6⟩
  rw [<-hZ];refine bM hK (by exact SZg) fun hS=>?_;have zc0:=cZ.1 0 _ rfl;have zc1:=cZ.1 1 _ rfl;have zc2:=cZ.1 2 _ rfl;have zc3:=cZ.1 3 _ rfl;have zc4:=cZ.1 4 _ rfl;have zc5:=cZ.1 5 _ rfl;have zc6:=cZ.1 6 _ rfl;have zc7:=cZ.1 7 _ rfl;clear hK KK hZ UN WX en apn bH SZg cZ rc0 rc1 rc2 rc3 rc4 rc5 rc6 rc7 rf;refine wpAnyH_done (by kernel_rfl) ?_ _;refine bc ?_;clear hS;obtain ⟨e1,e2,e3,e4⟩:=aa HE;go_wp2;refine bodyPost_ret (v:=.agg #[.slice pC nd.path.length cC,.slice pJ nd.value.length cJ,.int .u64 ow,.int .i64 mo,.slice pH nd.holders.length cH,.int .u64 ep,.int .u64 ge,.slice pU nd.watchers.length cU]) (by simp [results,results83,go_sem,zc0,zc1,zc2,zc3,zc4,zc5,zc6,zc7]) rfl ⟨_,lC++(lJ++(lH++lU)),rfl,?_,EN.2.1,EN.2.2⟩;have wE:=EN.1;rw [e1,e2,e3,e4] at wE;exact wE
  skip)
end Go.Proofs.YtmfjiolopcbcmaaGreatDoor
