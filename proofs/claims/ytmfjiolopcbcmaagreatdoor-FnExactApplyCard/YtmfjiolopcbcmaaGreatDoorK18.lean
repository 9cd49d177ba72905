import Derived.Test.YtmfjiolopcbcmaaGreatDoorK11
import Derived.Test.YtmfjiolopcbcmaaGreatDoorK16
import Derived.Test.YtmfjiolopcbcmaaGreatDoorK17
import Derived.Lib.LastIndexByte
import Derived.Laws.IdiomRangeMap
namespace Go.Proofs.YtmfjiolopcbcmaaGreatDoor
set_option maxHeartbeats 12800000
set_option linter.unusedVariables false
set_option linter.unusedSimpArgs false
set_option maxRecDepth 100000
open Go.ChangeShapes Go.WideShapes Go.ChangeAt Go.RowKit Go.Maps Go.Proofs.Tryz
variable {D:DataW Unit} {E:Prop} {K:Act->World->Prop} {P:Program} {Q:Exit->Act->World->Prop} {SB:List Nat} {a:Act} {b bn bs g i k:Nat} {cs:Array Value} {e x:Int} {ns:List aA} {o:Oper} {ops:Array Oper} {ss:List aR} {t:TypeId} {w w' w0 w1 w2:World}
theorem gp:Keyed prog 22:=int_keyed underlying22
theorem ke:Keyed prog 9:=string_keyed underlying9
theorem jt {i:Int} (h:0<=i/\i<18446744073709551616):(Lit.int .u64 i).wf=true:=by
 simp only [Lit.wf,IntKind.min,IntKind.max,IntKind.signed,IntKind.bits,Bool.and_eq_true,decide_eq_true_eq];simp;omega
theorem az (h:Below w.heap.size w w') (row:Option Nat):w.grownBy w' row:=⟨h.os,h.tape,h.output,h.size,fun i hi _=>h.block i hi⟩
theorem br {B:Nat} {row:Option Nat} (h:Below B w0 w) (hg:w.grownBy w' row) (hB:B<=w.heap.size) (hr:∀ j,row=some j->B<=j):Below B w0 w':=
 ⟨hg.os.trans h.os,hg.tape.trans h.tape,hg.output.trans h.output,Nat.le_trans h.size hg.size,fun k hk=>(hg.block k (Nat.lt_of_lt_of_le hk hB) (fun e=>by have:=hr k e.symm;omega)).trans (h.block k hk)⟩
theorem xD (p:Option Addr) (c n:Nat) (ids:List Int) (en:Hid (ids.length=n)) (w:World) (h:iA w (.slice p n c) ids) (hn:n<=1048576) (hU:Hid (∀ i∈ids,0<=i/\i<18446744073709551616)) :
  Calls prog 73 #[.slice p n c] w fun r w'=>∃ D,r=.returned (.map (some w.heap.size))/\w'.ownsMap prog 22 unitElem w.heap.size n D/\cI D ids/\Below w.heap.size w w'/\w.heap.size<w'.heap.size:=by
 have HR:=ae fun (w':World) (hb:Below w.heap.size w w')=>h.below hb;have DU:=@run_makeMap prog;go_enter func73,ntmps73;go_wp2
 go_loopw [9] (fun iv wr=>∃ (k:Nat) (D:DataW Unit),k<=n/\iv=.int .i64 k/\wr.ownsMap prog 22 unitElem w.heap.size k D/\Hid (cI D (ids.take k))/\Below w.heap.size w wr) (fun iv _=>n-(intOf iv).toNat)
 case atStart=>exact ⟨0,_,Nat.zero_le _,rfl,World.ownsMap_made _ _ _ _,cI.nil,ar.alloc ay _⟩
 case round =>(
 obtain ⟨k,D,hk,rfl,aS,jw,aE⟩:=hrel;by_cases aU:k<n;{
 have aV:(k:Int)<(n:Int):=by omega
 have bH:k<ids.length:=by rw [aa en];exact aU
 obtain ⟨b,o,rfl,bD⟩:∃ b o,p=some ⟨b,o,none⟩/\wr.cell? ⟨b,o+k,none⟩=some (.int .u64 (ids.getD k 0)):=by obtain ⟨p',c',ev,hd⟩:=aa HR _ aE;simp only [Value.slice.injEq] at ev;obtain ⟨rfl,-,-⟩:=ev;rcases hd with h0 | ⟨b,o,h1,h2⟩;{rw [h0] at bH;simp at bH};{exact ⟨b,o,h1,h2 k bH⟩}
 have e1:ids.take (k+1)=ids.take k++[ids.getD k 0]:=by rw [List.take_add_one,List.getD_eq_getElem?_getD,aH bH];rfl
 have hy:=aa hU (ids.getD k 0) (by rw [List.getD_eq_getElem?_getD,aH bH];exact List.getElem_mem bH);have Cw:=jw.put aS.isMap (ids.getD k 0) (.agg []);rw [<-e1] at Cw;have tJ:=ae Cw;obtain ⟨y,ey⟩:=aZ (ids.getD k 0);rw [ey] at bD hy tJ;have cD:keyOf prog 22 (.int .u64 y)=some (.int .u64 y):=keyOf_int_mk underlying22 (jt hy);go_wp2_with (first
  | (at_mapUpdate;refine wpList_mapUpdate_own _ rfl _ _ _ 109 rfl 22 _ gp underlying109 unitElem w.heap.size k _ rfl aS (by unfold maxLen;omega) _ _ _ rfl rfl cD (.agg []) [] unitElem_mk ?_;intro w1 mw UX)
  | go_in)
 go_roundw
 case rel=>exact ⟨k+1,_,by omega,by go_num,mw,tJ,br aE UX (Nat.le_of_lt (Nat.lt_of_le_of_lt ay aS.lt)) (fun j hj=>by cases hj;exact Nat.le_refl _)⟩
 case measure=>simp [intOf];omega}
 {
 have aV:¬ (k:Int)<(n:Int):=by omega
 have:k=n:=by omega
 subst this;have HS:=aa jw;rw [List.take_of_length_le (by rw [aa en];exact Nat.le_refl _)] at HS;go_wp2;go_ret;exact ⟨rfl,D,aS,HS,aE,aS.lt⟩})
theorem ot (bd bs nd ns:Nat) (Dd Ds:DataW Unit) (sd ss:List Int) (w:World) (hd:w.ownsMap prog 22 unitElem bd nd Dd) (hs:w.ownsMap prog 22 unitElem bs ns Ds) (hsd:Hid (cI Dd sd)) (Yo:Hid (cI Ds ss)) (bm:bd≠bs) (hn:nd<=4611686018427387904) (hm:ns<=1048576) :
  Calls prog 122 #[.map (some bd),.map (some bs)] w fun r w'=>∃ D s,r=.returned (.tuple #[])/\w'.ownsMap prog 22 unitElem bd (nd+ns) D/\cI D s/\(∀ i,i∈s↔i∈sd\/i∈ss)/\w.grownBy w' (some bd):=by
 have HS:=hs;go_enter func122,ntmps122;go_wp2_with (first
  | (at_range;refine wpList_range_own _ rfl _ 109 rfl 22 _ gp underlying109 _ bs ns _ rfl hs ?_;intro w0 oA tA Gw)
  | go_in)
 go_frame
 go_loopw [4] (fun _ wr=>∃ (left:Lit->Bool) (gu k:Nat) (D:DataW Unit) (s:List Int),wr.ranges prog 22 unitElem bs w.heap.size ns Ds left gu/\k+gu<=nd+ns/\wr.ownsMap prog 22 unitElem bd k D/\Hid (cI D s)/\Hid (∀ i,i∈s↔i∈sd\/(i∈ss/\left (.int .u64 i)=false))/\w.grownBy wr (some bd)) (fun _ wr=>wr.rangeLeft bs w.heap.size)
 case atStart =>(
 refine ⟨_,_,nd,Dd,sd,oA,?_,hd.kept tA (by simp),hsd,?_,tA.but _⟩;{have:=hs.size_le;omega};{intro i;constructor;{exact fun h=>.inl h};{rintro (h | ⟨h1,h2⟩);{exact h};{rw [(aa Yo (.int .u64 i)).2 ⟨i,h1,rfl⟩] at h2;cases h2}}})
 case round =>(
 obtain ⟨left,gu,k,D,s,mF,hkc,aS,jw,eh,hgw⟩:=hrel;go_wp2_with (first
  | (at_next;refine ti _ rfl _ rfl 22 gp underlying22 bs w.heap.size ns _ ss Yo _ _ rfl mF ?_ ?_)
  | go_in)
 {
 intro _ tY;go_wp2
 go_end0
 refine ⟨D,s,rfl,aS.mono (by omega),jw,fun i=>?_,hgw⟩;rw [aa eh i,tY];simp};{
 intro x w1 tG Yk hx hlx tp aU dS fO wE;have aD9:=hgw.andThen dS (fun j hj=>by cases hj;exact Or.inl ay);have hr:=mF.lt;have mw:=aS.kept dS (fun e=>by cases e;exact absurd hd.lt (by omega));have cD:keyOf prog 22 (.int .u64 x)=some (.int .u64 x):=keyOf_int_mk underlying22 Yk;have Cw:=ae (jw.put aS.isMap x (.agg []));have YI:Hid (∀ i,i∈s++[x]↔i∈sd\/(i∈ss/\(fun z=>left z&&!z.sameKey (.int .u64 x)) (.int .u64 i)=false)):=by
  intro i;rw [List.mem_append,aa eh i];simp only [List.mem_singleton];have hk:((Lit.int .u64 i).sameKey (.int .u64 x)=true)↔i=x:=by rw [WideAt.sameKey_iff (by trivial)];simp
  by_cases e:i=x;{subst e;rw [hk.2 rfl];simp [hx]};{rw [show (Lit.int .u64 i).sameKey (.int .u64 x)=false by (rw [Bool.eq_false_iff];exact fun h=>e (hk.1 h))];simp [e]}
 go_wp2_with (first
  | (at_mapUpdate;refine wpList_mapUpdate_own _ rfl _ _ _ 109 rfl 22 _ gp underlying109 unitElem bd k _ rfl (mw.alloc _) (by unfold maxLen;omega) _ _ _ rfl rfl cD (.agg []) [] unitElem_mk ?_;intro w2 vo KU)
  | go_in)
 have vj:=(tp.alloc _).kept KU (by simp;exact fun e=>bm e.symm) (by simp;intro e;exact absurd hd.lt (by omega));go_roundw
 case rel=>exact ⟨_,tG,vj,k+1,by omega,_,vo,_,Cw,YI,(aD9.andThen (World.grownBy_alloc _ _ none) (fun j hj=>by cases hj)).andThen KU (fun j hj=>by cases hj;exact Or.inr rfl)⟩
 case measure=>rw [vj.left_eq,mF.left_eq];omega})
theorem fD (l:List Int):(aB l).data.toList=l.map (fun n=>UInt8.ofNat n.toNat):=by rw [aB,yz];rfl
theorem dI (l:List Int):(aB l).size=l.length:=by
 show (aB l).data.size=_;rw [<-Array.length_toList,fD,List.length_map]
theorem DA {l:List Int} (hB:cT l) (j:Nat) (hj:j<(aB l).size):(((aB l)[j]'hj).toNat:Int)=l.getD j 0:=by
 have hl:j<l.length:=by rw [<-dI];exact hj
 have e1:(aB l)[j]'hj=(aB l).data.toList[j]'(by rw [fD,List.length_map];exact hl):=by rw [Array.getElem_toList];rfl
 rw [e1];simp only [fD,List.getElem_map];rw [List.getD_eq_getElem?_getD,aH hl,Option.getD_some];have:=hB l[j] (List.getElem_mem hl);rw [UInt8.toNat_ofNat'];omega
theorem zl (l:List Int) (n:Nat) (s:ByteArray) (es:Hid (s=aB l)) (en:s.size=n) (hB:Hid (cT l)) (hn:n<=2097152) (w:World) :
  Calls prog 158 #[.string s,.int .u8 47] w fun e w'=>((∃ k:Nat,e=.returned (.int .i64 k)/\k<n/\AU l n=k)\/(e=.returned (.int .i64 (-1))/\AU l n=0/\∀ j,j<n->l.getD j 0≠47))/\w'=w:=by
 have UZ:Hid (∀ (j:Nat) (hj:j<s.size),((s[j]'hj).toNat:Int)=l.getD j 0):=by have e:=aa es;subst e;exact fun j hj=>DA hB j hj
 subst en;go_enter func158,ntmps158;go_wp2
 go_loop [5] (fun vi=>∃ k:Nat,k<=s.size/\vi=.int .i64 ((k:Int)-1)/\Hid (AU l s.size=AU l k)/\Hid (∀ j,k<=j->j<s.size->l.getD j 0≠47)) (fun vi=>((RowKit.intOf vi)+1).toNat)
 case atStart=>exact ⟨s.size,Nat.le_refl _,by first | rfl | go_num | (congr 1;omega),(by show _=_;rfl),fun j h1 h2=>by omega⟩
 case round =>(
 obtain ⟨k,hk,rfl,hh,hq⟩:=hrel;go_wp2;{
 have hc:(((s[k-1]).toNat:Int)==47)=true:=by assumption
 have k1:1<=k:=by omega
 have e1:AU l k=k-1:=by have:=nE l (k-1);rw [show k-1+1=k by omega] at this;rw [this,if_pos];rw [<-aa UZ (k-1) (by omega)];simpa using hc
 have e2:((k-1:Nat):Int)=(k:Int)-1:=by omega
 go_ret;refine ⟨.inl ⟨k-1,by rw [e2];rfl,by omega,by rw [aa hh,e1]⟩,rfl⟩};{
 have hc:(((s[k-1]).toNat:Int)==47)=false:=by assumption
 have k1:1<=k:=by omega
 have e1:AU l k=AU l (k-1):=by have:=nE l (k-1);rw [show k-1+1=k by omega] at this;rw [this,if_neg];rw [<-aa UZ (k-1) (by omega)];simpa using hc
 have e3:l.getD (k-1) 0≠47:=by rw [<-aa UZ (k-1) (by omega)];simpa using hc
 refine ⟨⟨k-1,by omega,by congr 1;omega,hh.trans e1,fun j h1 h2=>?_⟩,?_⟩;{by_cases ej:j=k-1;{rw [ej];exact e3};{exact hq j (by omega) h2}};simp [RowKit.intOf];omega};{
 have k0:k=0:=by omega
 subst k0;go_ret;exact ⟨.inr ⟨rfl,hh,fun j hj=>aa hq j (Nat.zero_le _) hj⟩,rfl⟩})
theorem sJ (l:List Int) (n:Nat) (s:ByteArray) (es:Hid (s=aB l)) (en:s.size=n) (hB:Hid (cT l)) (hn:n<=2097152) (w:World) :
  Calls prog 145 #[.string s,.int .u8 47] w fun e w'=>((∃ k:Nat,e=.returned (.int .i64 k)/\k<n/\AU l n=k)\/(e=.returned (.int .i64 (-1))/\AU l n=0/\∀ j,j<n->l.getD j 0≠47))/\w'=w:=by
 go_enter func145,ntmps145;go_wp2_with fail;refine (zl l n s es en hB hn w).mono ?_;rintro e w' ⟨hr,rfl⟩;rcases hr with ⟨k,rfl,hk,hl⟩ | ⟨rfl,hl⟩;{have HL:=ae hl;go_wp2;go_ret;exact ⟨.inl ⟨k,rfl,hk,HL⟩,rfl⟩};{have HL:=ae hl;go_wp2;go_ret;exact ⟨.inr ⟨rfl,HL⟩,rfl⟩}
theorem lT (l:List Int) (n:Nat) (en:Hid (l.length=n)) (hB:Hid (cT l)) (hn:n<=1048576) (w:World) :
  Calls prog 121 #[.string (aB l)] w fun e w'=>e=.returned (.string (aB (de l)))/\w'=w:=by
 obtain ⟨s,es⟩:=ax (aB l);have hs:s.size=n:=by rw [es,dI];exact aa en
 rw [<-es];have ES:=ae es;clear es;go_enter func121,ntmps121;go_wp2_with fail;refine (sJ l n s ES hs hB (by omega) w).mono ?_;rintro e w' ⟨hr,rfl⟩;rcases hr with ⟨k,rfl,hk,hl⟩ | ⟨rfl,hl,-⟩;{
 by_cases k0:k=0;{
 subst k0;have e1:de l=[47]:=by rw [de,aa en,hl,if_pos rfl]
 have E1:=ae e1;clear hl e1;go_wp2;go_ret;exact ⟨by rw [aa E1];rfl,rfl⟩};{
 have e1:de l=l.take k:=by rw [de,aa en,hl,if_neg k0]
 have E1:=ae e1;clear e1;have g1:¬ (k:Int)<1:=by omega
 have g2:(k:Int)<=(n:Int):=by omega
 have g3:k<=s.size:=by omega
 have ex:Hid (s.extract 0 k=aB (l.take k)):=by show _=_;rw [aa ES];apply ByteArray.ext;apply Array.toList_inj.1;rw [fD,List.map_take,<-fD];simp [ByteArray.data_extract]
 clear hl;go_wp2;go_ret;exact ⟨by rw [aa E1,<-aa ex];rfl,rfl⟩}};{
 have e1:de l=[47]:=by rw [de,aa en,hl,if_pos rfl]
 have E1:=ae e1;clear hl e1;go_wp2;go_ret;exact ⟨by rw [aa E1];rfl,rfl⟩}
structure oG (w0 w:World) (bs:Nat) (ss:List aR) (SB:List Nat):Prop where
 len:SB.length=ss.length
 own:∃ D,w.ownsMap prog 22 aT bs ss.length D/\dZ D (List.zipWith (fun (s:aR) g=>(Lit.int .u64 s.1,g)) ss SB)
 aF:∀ (i:Nat) (s:aR) (g:Nat),ss[i]?=some s->SB[i]?=some g->w0.heap.size<=g/\∃ u,w.heap[g]?=some (.cells #[.int .u64 s.1,.int .i64 s.2.1,u] 95)/\iO w0 u s.2.2
 lh:SB.Nodup
structure mH (w0 w:World) (bn:Nat) (ns:List aA) (NB HB UB:List Nat):Prop where
 len:NB.length=ns.length
 EH:HB.length=ns.length
 EG:UB.length=ns.length
 own:∃ D,w.ownsMap prog 9 aT bn ns.length D/\dZ D (List.zipWith (fun (nd:aA) g=>(bj nd.path,g)) ns NB)
 aF:∀ (i:Nat) (nd:aA) (g h u:Nat),ns[i]?=some nd->NB[i]?=some g->HB[i]?=some h->UB[i]?=some u->w0.heap.size<=g/\w0.heap.size<=h/\w0.heap.size<=u ∧
  (∃ V,w.heap[g]?=some (.cells #[V,.int .u64 nd.owner,.int .i64 nd.mode,.map (some h),.int .u64 nd.aC,.int .u64 nd.gen,.map (some u)] 119)/\Rd w0 V nd.value) ∧
  (∃ D,w.ownsMap prog 22 unitElem h nd.holders.length D/\cI D nd.holders)/\(∃ D,w.ownsMap prog 22 unitElem u nd.watchers.length D/\cI D nd.watchers)
 lh:NB.Nodup
 Aw:(bn::(HB++UB)).Nodup
theorem iR {k:TypeId} {R:Value->Option (DataW Unit × List MemPlace)} {b n g:Nat} (h:w.ownsMap P k R b n D) (hg:w.heap[g]?=some (.cells cs t)):g≠b:=by
 rintro rfl;obtain ⟨es,cl,hb,_⟩:=h;rw [hb] at hg;cases hg
theorem aI {o:Obj} (h:w.heap[g]?=some o):g<w.heap.size:=(Array.getElem?_eq_some_iff.1 h).1
theorem oG.kept {row:Option Nat} (h:oG w0 w bs ss SB) (hg:w.grownBy w' row) (h1:some bs≠row) (h2:∀ g∈SB,some g≠row):oG w0 w' bs ss SB:=by
 refine ⟨h.len,?_,fun i s g hi wD=>?_,h.lh⟩;{obtain ⟨D,hD,hM⟩:=h.own;exact ⟨D,hD.kept hg h1,hM⟩};{obtain ⟨a1,u,a2,a3⟩:=h.aF i s g hi wD;exact ⟨a1,u,(hg.block g (aI a2) (h2 g (aL wD))).trans a2,a3⟩}
theorem mH.kept {NB HB UB:List Nat} {row:Option Nat} (h:mH w0 w bn ns NB HB UB) (hg:w.grownBy w' row) (h1:some bn≠row) (h2:∀ g∈NB,some g≠row) (h3:∀ g∈HB++UB,some g≠row):mH w0 w' bn ns NB HB UB:=by
 refine ⟨h.len,h.EH,h.EG,?_,fun i nd g hh u hi wD PO PG=>?_,h.lh,h.Aw⟩;{obtain ⟨D,hD,hM⟩:=h.own;exact ⟨D,hD.kept hg h1,hM⟩};{obtain ⟨a1,a2,a3,⟨V,a4,a5⟩,⟨D1,a6,a7⟩,⟨D2,a8,a9⟩⟩:=h.aF i nd g hh u hi wD PO PG;exact ⟨a1,a2,a3,⟨V,(hg.block g (aI a4) (h2 g (aL wD))).trans a4,a5⟩,⟨D1,a6.kept hg (h3 _ (List.mem_append.2 (.inl (aL PO)))),a7⟩,⟨D2,a8.kept hg (h3 _ (List.mem_append.2 (.inr (aL PG)))),a9⟩⟩}
theorem pA {α:Type} {l:List α} {x y:α} (h:(l++[x])[i]?=some y):l[i]?=some y\/(i=l.length/\x=y):=by
 by_cases hi:i<l.length;{rw [List.getElem?_append_left hi] at h;exact .inl h};{
 rw [List.getElem?_append_right (by omega)] at h
 right
 obtain ⟨aU,e⟩:=aM.1 h;simp at aU;refine ⟨by omega,?_⟩;simpa [show i-l.length=0 by omega] using h}
theorem Bg {α β γ:Type} (f:α->β->γ) {l:List α} {m:List β} (h:m.length=l.length) (x:α) (y:β):List.zipWith f (l++[x]) (m++[y])=List.zipWith f l m++[f x y]:=by
 rw [List.zipWith_append (by omega)]
 rfl
theorem gj {α β γ:Type} {f:α->β->γ} {l:List α} {m:List β} {z:γ} (h:z∈List.zipWith f l m):∃ (i:Nat) (x:α) (y:β),l[i]?=some x/\m[i]?=some y/\z=f x y:=by
 obtain ⟨i,hi,rfl⟩:=List.getElem_of_mem h;rw [List.length_zipWith] at hi;refine ⟨i,l[i]'(by omega),m[i]'(by omega),aH _,aH _,?_⟩;simp
theorem oG.empty (h:w.ownsMap prog 22 aT bs 0 (.map [])):oG w0 w bs [] []:=
 ⟨rfl,⟨_,h,dZ.nil⟩,fun i s g hi=>by simp at hi,List.nodup_nil⟩
theorem mH.empty (h:w.ownsMap prog 9 aT bn 0 (.map [])):mH w0 w bn [] [] [] []:=
 ⟨rfl,rfl,rfl,⟨_,h,dZ.nil⟩,fun i s g _ _ hi=>by simp at hi,List.nodup_nil,by simp⟩
theorem oG.lt (h:oG w0 w bs ss SB):∀ g∈SB,g<w.heap.size:=by
 intro g hg;obtain ⟨i,hi⟩:=List.getElem?_of_mem hg;have hl:=(aM.1 hi).1;obtain ⟨s,hs⟩:∃ s,ss[i]?=some s:=⟨_,aH (by rw [<-h.len];exact hl)⟩;obtain ⟨_,u,a2,_⟩:=h.aF i s g hs hi;exact aI a2
theorem mH.at {NB HB UB:List Nat} (h:mH w0 w bn ns NB HB UB) {nd:aA} (hi:ns[i]?=some nd):∃ g hh u,NB[i]?=some g/\HB[i]?=some hh/\UB[i]?=some u:=by
 have hl:=(aM.1 hi).1;exact ⟨_,_,_,aH (by rw [h.len];exact hl),aH (by rw [h.EH];exact hl),aH (by rw [h.EG];exact hl)⟩
theorem mH.lt {NB HB UB:List Nat} (h:mH w0 w bn ns NB HB UB):(∀ g∈NB,g<w.heap.size)/\∀ g∈HB++UB,g<w.heap.size:=by
 have key:∀ i,i<ns.length->∃ g hh u,NB[i]?=some g/\HB[i]?=some hh/\UB[i]?=some u/\g<w.heap.size/\hh<w.heap.size/\u<w.heap.size:=fun i hi=>by obtain ⟨nd,bf⟩:∃ s,ns[i]?=some s:=⟨_,aH hi⟩;obtain ⟨g,hh,u,e1,e2,e3⟩:=h.at bf;obtain ⟨_,_,_,⟨V,a4,_⟩,⟨D1,a6,_⟩,⟨D2,a8,_⟩⟩:=h.aF i nd g hh u bf e1 e2 e3;exact ⟨g,hh,u,e1,e2,e3,aI a4,a6.lt,a8.lt⟩
 refine ⟨fun g hg=>?_,fun g hg=>?_⟩;{obtain ⟨i,hi⟩:=List.getElem?_of_mem hg;have hl:=(aM.1 hi).1;obtain ⟨g',_,_,e1,_,_,a,_,_⟩:=key i (by rw [<-h.len];exact hl);rw [hi] at e1;cases e1;exact a};{rcases List.mem_append.1 hg with hg | hg;{obtain ⟨i,hi⟩:=List.getElem?_of_mem hg;have hl:=(aM.1 hi).1;obtain ⟨_,g',_,_,e1,_,_,a,_⟩:=key i (by rw [<-h.EH];exact hl);rw [hi] at e1;cases e1;exact a};{obtain ⟨i,hi⟩:=List.getElem?_of_mem hg;have hl:=(aM.1 hi).1;obtain ⟨_,_,g',_,_,e1,_,_,a⟩:=key i (by rw [<-h.EG];exact hl);rw [hi] at e1;cases e1;exact a}}
theorem uO {l:List Nat} {x:Nat} (h:l.Nodup) (hx:∀ y∈l,y≠x):(l++[x]).Nodup:=by
 rw [List.nodup_append];exact ⟨h,by simp,fun a ha b hb=>by simp at hb;subst hb;exact hx a ha⟩
theorem oG.step (h:oG w0 w bs ss SB) (s:aR) (g:Nat) (hg:w.grownBy w1 none) (Jj:w.heap.size<=g) (hw:w0.heap.size<=w.heap.size) (u:Value) (hu:iO w0 u s.2.2) (hb:w1.heap[g]?=some (.cells #[.int .u64 s.1,.int .i64 s.2.1,u] 95))
  (hid:∀ z∈ss,z.1≠s.1) (hM:dZ D (List.zipWith (fun (s:aR) g=>(Lit.int .u64 s.1,g)) ss SB)) (hD:IsMap D)
  (aS:w2.ownsMap prog 22 aT bs (ss.length+1) (D.put (.int .u64 s.1) (.lit (.int .i64 g)))) (dY:w1.grownBy w2 (some bs)):oG w0 w2 bs (ss++[s]) (SB++[g]):=by
 have sR:bs<w.heap.size:=by obtain ⟨D,hD,_⟩:=h.own;exact hD.lt
 refine ⟨by simp [h.len],⟨_,by rw [List.length_append];exact aS,?_⟩,fun i z g' hi wD=>?_,uO h.lh (fun y hy=>by have:=h.lt y hy;omega)⟩;{rw [Bg _ h.len];refine hM.put hD (by trivial) (fun p hp=>?_) g;obtain ⟨i,x,y,hx,hy,rfl⟩:=gj hp;intro e;simp only [Lit.int.injEq,true_and] at e;exact hid x (aL hx) e};{rcases pA hi with PM | ⟨e1,rfl⟩;{have hl:=(aM.1 PM).1;rw [List.getElem?_append_left (by rw [h.len];exact hl)] at wD;obtain ⟨a1,v,a2,a3⟩:=h.aF i z g' PM wD;refine ⟨a1,v,?_,a3⟩;have b1:=(hg.block g' (aI a2) (by simp)).trans a2;refine (dY.block g' (aI b1) ?_).trans b1;obtain ⟨D',hD',_⟩:=h.own;have:=iR hD' a2;simpa using this};{rw [e1,<-h.len,List.getElem?_append_right ay] at wD;simp at wD;subst wD;refine ⟨by omega,u,?_,hu⟩;exact (dY.block _ (aI hb) (by simp;omega)).trans hb}}
structure jO (w0 w:World) (b bs bn:Nat) (e g x t:Int) (ss:List aR) (ns:List aA) (SB NB HB UB:List Nat):Prop where
 hd:w.heap[b]?=some (.cells #[.int .u64 e,.int .u64 g,.int .u64 x,.int .i64 t,.map (some bs),.map (some bn)] 114)
 En:oG w0 w bs ss SB
 lh:mH w0 w bn ns NB HB UB
 lo:w0.heap.size<=b/\w0.heap.size<=bs/\w0.heap.size<=bn
 Aw:(bs::bn::(HB++UB)).Nodup
theorem jO.below {g t:Int} {SB NB HB UB:List Nat} (h:jO w0 w b bs bn e g x t ss ns SB NB HB UB) (hb:Below w.heap.size w w'):jO w0 w' b bs bn e g x t ss ns SB NB HB UB:=
 ⟨(hb.block b (aI h.hd)).trans h.hd,h.En.kept (az hb none) (by simp) (by simp),h.lh.kept (az hb none) (by simp) (by simp) (by simp),h.lo,h.Aw⟩
theorem aq (h:w.heap[g]?=some (.cells cs t)) (i:Nat):w.cell? ⟨g,i,none⟩=cs[i]?:=by
 unfold World.cell?;rw [h]
 rfl
theorem mH.step {NB HB UB:List Nat} (h:mH w0 w bn ns NB HB UB) (nd:aA) (g hb ub:Nat) (hg:w.grownBy w1 none) (Jj:w.heap.size<=g) (Ji:w.heap.size<=hb) (PF:w.heap.size<=ub) (bm:hb≠ub) (hw:w0.heap.size<=w.heap.size) (V:Value) (hV:Rd w0 V nd.value)
  (hbk:w1.heap[g]?=some (.cells #[V,.int .u64 nd.owner,.int .i64 nd.mode,.map (some hb),.int .u64 nd.aC,.int .u64 nd.gen,.map (some ub)] 119))
  {D1 D2:DataW Unit} (hH:w1.ownsMap prog 22 unitElem hb nd.holders.length D1) (hHs:cI D1 nd.holders) (hU:w1.ownsMap prog 22 unitElem ub nd.watchers.length D2) (hUs:cI D2 nd.watchers)
  (hid:∀ z∈ns,bj z.path≠bj nd.path) (hM:dZ D (List.zipWith (fun (nd:aA) g=>(bj nd.path,g)) ns NB)) (hD:IsMap D)
  (aS:w2.ownsMap prog 9 aT bn (ns.length+1) (D.put (bj nd.path) (.lit (.int .i64 g)))) (dY:w1.grownBy w2 (some bn)):mH w0 w2 bn (ns++[nd]) (NB++[g]) (HB++[hb]) (UB++[ub]):=by
 have qD:bn<w.heap.size:=by obtain ⟨D,hD,_⟩:=h.own;exact hD.lt
 have aU:=h.lt;refine ⟨by simp [h.len],by simp [h.EH],by simp [h.EG],⟨_,by rw [List.length_append];exact aS,?_⟩,fun i z g' h' u' hi wD PO PG=>?_,uO h.lh (fun y hy=>by have:=aU.1 y hy;omega),?_⟩;{rw [Bg _ h.len];refine hM.put hD (by trivial) (fun p hp=>?_) g;obtain ⟨i,x,y,hx,hy,rfl⟩:=gj hp;exact fun e=>hid x (aL hx) e};{
 rcases pA hi with PM | ⟨e1,rfl⟩;{
 have hl:=(aM.1 PM).1;rw [List.getElem?_append_left (by rw [h.len];exact hl)] at wD;rw [List.getElem?_append_left (by rw [h.EH];exact hl)] at PO;rw [List.getElem?_append_left (by rw [h.EG];exact hl)] at PG;obtain ⟨a1,a2,a3,⟨V',a4,a5⟩,⟨E1,a6,a7⟩,⟨E2,a8,a9⟩⟩:=h.aF i z g' h' u' PM wD PO PG;have U3:=h.Aw;rw [List.nodup_cons] at U3;have n1:some h'≠some bn:=by intro e;cases e;exact U3.1 (List.mem_append.2 (.inl (aL PO)))
 have n2:some u'≠some bn:=by intro e;cases e;exact U3.1 (List.mem_append.2 (.inr (aL PG)))
 have b1:=(hg.block g' (aI a4) (by simp)).trans a4;refine ⟨a1,a2,a3,⟨V',(dY.block g' (aI b1) ?_).trans b1,a5⟩,⟨E1,(a6.kept hg (by simp)).kept dY n1,a7⟩,⟨E2,(a8.kept hg (by simp)).kept dY n2,a9⟩⟩;obtain ⟨D',hD',_⟩:=h.own;have:=iR hD' a4;simpa using this};{rw [e1,<-h.len,List.getElem?_append_right ay] at wD;rw [e1,<-h.EH,List.getElem?_append_right ay] at PO;rw [e1,<-h.EG,List.getElem?_append_right ay] at PG;simp at wD PO PG;subst wD PO PG;exact ⟨by omega,by omega,by omega,⟨V,(dY.block _ (aI hbk) (by simp;omega)).trans hbk,hV⟩,⟨D1,hH.kept dY (by simp;omega),hHs⟩,⟨D2,hU.kept dY (by simp;omega),hUs⟩⟩}};{
 have hp:((HB++[hb])++(UB++[ub])).Perm ((HB++UB)++[hb,ub]):=by rw [List.append_assoc,List.append_assoc];exact List.Perm.append_left HB (show (hb::(UB++[ub])).Perm (UB++hb::[ub]) from List.perm_middle.symm)
 have hq:(bn::((HB++[hb])++(UB++[ub]))).Perm ((bn::(HB++UB))++[hb,ub]):=hp.cons bn;rw [hq.nodup_iff,List.nodup_append];refine ⟨h.Aw,by simp [bm],fun a ha c hc=>?_⟩;have hal:a<w.heap.size:=by rcases List.mem_cons.1 ha with rfl | ha;{exact qD};{exact aU.2 a ha}
 simp at hc;rcases hc with rfl | rfl<;>omega}
theorem mY (kM:o.guard=none) (m x v:Operand) (t:TypeId) (E6:o.op=Op.mapUpdate t m x v)
  (k e:TypeId) (KK:Keyed P k) (ht:P.underlying t=some (.map k e)) (R:Value->Option (DataW Unit × List MemPlace)) (b n:Nat) (D:DataW Unit)
  (hm:a.eval m=.map (some b)) (aS:w.ownsMap P k R b n D) (hn:n<maxLen) (key val:Value) (kl:Lit) (hx:a.eval x=key) (hv:a.eval v=val) (cD:keyOf P k key=some kl)
  (d:DataW Unit) (ps:List MemPlace) (sk:R val=some (d,ps)) (hK:∀ w',w'.ownsMap P k R b (n+1) (D.put kl d)->w.grownBy w' (some b)->K (a.put o.dst undef) w') :
  if Region.wanted o (yielded ops a.tmps)=true then Oper.wp P o a w K Q else E:=by
 have hw:Region.wanted o (yielded ops a.tmps)=true:=by simp [Region.wanted,kM]
 rw [if_pos hw];obtain ⟨w',bS,r1,r2⟩:=aS.update KK ht hn cD sk;unfold Oper.wp;simp [execOp,E6,hm,hx,hv,bS,Result.andThen];exact hK w' r1 r2
theorem JG (kM:o.guard=none) (t:TypeId) (x:Operand) (E6:o.op=Op.box t x) (v:Value) (hx:a.eval x=v) (r:Value) (w':World) (bS:(Instr.box t v).run P w=.ok r w')
  (hK:K (a.put o.dst r) w'):if Region.wanted o (yielded ops a.tmps)=true then Oper.wp P o a w K Q else E:=by
 have hw:Region.wanted o (yielded ops a.tmps)=true:=by simp [Region.wanted,kM]
 rw [if_pos hw];unfold Oper.wp;simp [execOp,E6,hx,bS,Result.andThen];exact hK
theorem BK (w:World) (V:Value) (ow mo ep ge:Int) (h u:Nat):(Instr.box 119 (.agg #[V,.int .u64 ow,.int .i64 mo,.map (some h),.int .u64 ep,.int .u64 ge,.map (some u)])).run prog w=.ok (.pointer (some ⟨w.heap.size,0,none⟩)) (w.alloc (.cells #[V,.int .u64 ow,.int .i64 mo,.map (some h),.int .u64 ep,.int .u64 ge,.map (some u)] 119)):=by
 go_simp
theorem kU {α:Type} {l:List α} {y:α} (h:l[k]?=some y):l.take (k+1)=l.take k++[y]:=by rw [List.take_add_one,h];rfl
theorem qV {α:Type} {l:List α} {z:α} (h:z∈l.take k):∃ i,i<k/\l[i]?=some z:=by
 obtain ⟨i,hi⟩:=List.getElem?_of_mem h;rw [List.getElem?_take] at hi;split at hi;{exact ⟨i,by assumption,hi⟩};{cases hi}
theorem bq (h:w'.heap[b]?=w.heap[b]?) (o:Nat):w'.cell? ⟨b,o,none⟩=w.cell? ⟨b,o,none⟩:=by
 unfold World.cell?;rw [h]
theorem js.heap {g t:Int} {S N:Value} (h:js w b e g x t S N) (hb:w'.heap[b]?=w.heap[b]?):js w' b e g x t S N:=
 ⟨(bq hb _).trans h.1,(bq hb _).trans h.2.1,(bq hb _).trans h.2.2.1,(bq hb _).trans h.2.2.2.1,(bq hb _).trans h.2.2.2.2.1,(bq hb _).trans h.2.2.2.2.2⟩
theorem ao {X:World} {row:Option Nat} (h:X.drew.grownBy w2 row):X.grownBy w2 row:=⟨h.os,h.tape,h.output,h.size,h.block⟩
theorem sH (e g x t:Int) (p q:Option Addr) (c n d m:Nat) (ss:List aR) (ns:List aA) (en:Hid (ss.length=n)) (em:Hid (ns.length=m)) (w:World) (h:jP w (.slice p n c) ss) (hN:jB w (.slice q m d) ns) (hn:n<=1048576) (hm:m<=1048576)
  (hsu:Hid (∀ s∈ss,0<=s.1/\s.1<18446744073709551616)) (hsd:Hid (∀ (i j:Nat) (s s':aR),ss[i]?=some s->ss[j]?=some s'->i<j->s.1≠s'.1))
  (du:Hid (∀ nd∈ns,cT nd.path/\nd.path.length<=1048576/\nd.value.length<=1048576/\nd.holders.length<=1048576/\nd.watchers.length<=1048576))
  (KE:Hid (∀ nd∈ns,(∀ i∈nd.holders,0<=i/\i<18446744073709551616)/\∀ i∈nd.watchers,0<=i/\i<18446744073709551616))
  (bf:Hid (∀ (i j:Nat) (z z':aA),ns[i]?=some z->ns[j]?=some z'->i<j->z.path≠z'.path)) :
  Calls prog 29 #[cL e g x t (.slice p n c) (.slice q m d)] w fun r w'=>∃ b bs bn SB NB HB UB,r=.returned (.pointer (some ⟨b,0,none⟩))/\jO w w' b bs bn e g x t ss ns SB NB HB UB/\Below w.heap.size w w':=by
 have HR:=ae fun (w':World) (hb:Below w.heap.size w w')=>ag (h.below hb) (hN.below hb);have HS0:=ae h;have HN0:=ae hN;clear h hN;have DU:=@run_makeMap prog;go_enter func29,ntmps29;go_wp2_with fail;obtain ⟨b,eb⟩:=ax (w.heap.size+1+1+1);obtain ⟨bn,SJ⟩:=ax (w.heap.size+1+1);obtain ⟨bs,SI⟩:=ax (w.heap.size+1);rw [<-eb,<-SJ,<-SI];obtain ⟨W,hW⟩:=ax ((((w.alloc (.cells #[.int .u64 e,.int .u64 g,.int .u64 x,.int .i64 t,.slice p n c,.slice q m d] 35)).alloc (.map #[] 0)).alloc (.map #[] 0)).alloc (.cells #[.int .u64 e,.int .u64 g,.int .u64 x,.int .i64 t,.map (some bs),.map (some bn)] 114));have bW:Below w.heap.size w W:=by rw [hW];exact (((ar.alloc ay _).alloc (by simp) _).alloc (by simp;omega) _).alloc (by simp;omega) _
 have zW:W.heap.size=w.heap.size+4:=by rw [hW];simp
 have hdW:W.heap[b]?=some (.cells #[.int .u64 e,.int .u64 g,.int .u64 x,.int .i64 t,.map (some bs),.map (some bn)] 114):=by rw [hW,eb];have:=(MapKept.heap_alloc (((w.alloc (.cells #[.int .u64 e,.int .u64 g,.int .u64 x,.int .i64 t,.slice p n c,.slice q m d] 35)).alloc (.map #[] 0)).alloc (.map #[] 0)) (.cells #[.int .u64 e,.int .u64 g,.int .u64 x,.int .i64 t,.map (some bs),.map (some bn)] 114)).1;simpa using this
 have oS:W.ownsMap prog 22 aT bs 0 (.map []):=by rw [hW,SI];have:=((World.ownsMap_made (w.alloc (.cells #[.int .u64 e,.int .u64 g,.int .u64 x,.int .i64 t,.slice p n c,.slice q m d] 35)) prog 22 aT).alloc (.map #[] 0)).alloc (.cells #[.int .u64 e,.int .u64 g,.int .u64 x,.int .i64 t,.map (some (w.heap.size+1)),.map (some bn)] 114);simpa using this
 have oN:W.ownsMap prog 9 aT bn 0 (.map []):=by rw [hW,SJ];have:=(World.ownsMap_made ((w.alloc (.cells #[.int .u64 e,.int .u64 g,.int .u64 x,.int .i64 t,.slice p n c,.slice q m d] 35)).alloc (.map #[] 0)) prog 9 aT).alloc (.cells #[.int .u64 e,.int .u64 g,.int .u64 x,.int .i64 t,.map (some bs),.map (some (w.heap.size+1+1))] 114);simpa using this
 have c6:js W w.heap.size e g x t (.slice p n c) (.slice q m d):=by
  have c0:js (w.alloc (.cells #[.int .u64 e,.int .u64 g,.int .u64 x,.int .i64 t,.slice p n c,.slice q m d] 35)) w.heap.size e g x t (.slice p n c) (.slice q m d):=by simp [js]
  rw [hW];exact c0.below (((ar.alloc ay _).alloc (by simp) _).alloc (by simp) _)
 rw [<-hW];have HEQ:=ae (ag eb (ag SJ (ag SI zW)));have BW:=ae bW;have Ol:=ae c6;have GZ:=ae (ag hdW (ag oS oN));clear hW eb SJ SI zW bW hdW oS oN c6 DU
 go_loopw [23] (fun iv wr=>∃ (k:Nat) (SB:List Nat),k<=n/\iv=.int .i64 k/\Hid (oG w wr bs (ss.take k) SB/\wr.heap[b]?=some (.cells #[.int .u64 e,.int .u64 g,.int .u64 x,.int .i64 t,.map (some bs),.map (some bn)] 114)/\wr.ownsMap prog 9 aT bn 0 (.map [])/\js wr w.heap.size e g x t (.slice p n c) (.slice q m d))/\Below w.heap.size w wr/\W.heap.size<=wr.heap.size) (fun iv _=>n-(intOf iv).toNat)
 case atStart=>exact ⟨0,[],Nat.zero_le _,rfl,⟨oG.empty GZ.2.1,GZ.1,GZ.2.2,Ol⟩,BW,Nat.le_refl _⟩
 case round =>(
 obtain ⟨k,SB,hk,rfl,fP,aE,pR⟩:=hrel;by_cases aU:k<n;{
 have aV:(k:Int)<(n:Int):=by omega
 have bH:k<ss.length:=by rw [aa en];exact aU
 obtain ⟨⟨I,D,Q⟩,hy⟩:∃ y,ss[k]?=some y:=⟨_,aH bH⟩;obtain ⟨b0,o,rfl,Sh,Si,u,Jk,zL⟩:∃ b o,p=some ⟨b,o,none⟩/\w.cell? ⟨b,o+k*3,none⟩=some (.int .u64 I)/\w.cell? ⟨b,o+k*3+1,none⟩=some (.int .i64 D)/\∃ u,w.cell? ⟨b,o+k*3+2,none⟩=some u/\iO w u Q:=by obtain ⟨p',c',ev,hd⟩:=aa HS0;simp only [Value.slice.injEq] at ev;obtain ⟨rfl,-,-⟩:=ev;rcases hd with h0 | ⟨b,o,h1,h2⟩;{rw [h0] at bH;simp at bH};{exact ⟨b,o,h1,h2 k _ hy⟩}
 obtain ⟨pq,cq,rfl,-⟩:=id zL;obtain ⟨mq,emq⟩:=aZ Q.length;rw [emq] at zL Jk;clear emq;replace Sh:=af Sh aE;replace Si:=af Si aE;replace Jk:=af Jk aE;have Oe:=ae zL;have HY:=ae hy;have hI:=aa hsu _ (aL hy);have cD:keyOf prog 22 (.int .u64 I)=some (.int .u64 I):=keyOf_int_mk underlying22 (jt hI);have xw:=ae cD;clear bH hy zL hI cD;go_wp2_with fail;obtain ⟨X,hX⟩:=ax (wr.alloc (.cells #[.int .u64 I,.int .i64 D,.slice pq mq cq] 95));have bX:Below wr.heap.size wr X:=by rw [hX];exact ar.alloc ay _
 have WY:X.heap[wr.heap.size]?=some (.cells #[.int .u64 I,.int .i64 D,.slice pq mq cq] 95):=by rw [hX];exact (MapKept.heap_alloc wr _).1
 have hcX:X.cell? ⟨wr.heap.size,0,none⟩=some (.int .u64 I):=by rw [hX];simp
 obtain ⟨i1,i2,i3,i4⟩:=aa fP;have kh:X.heap[b]?=some (.cells #[.int .u64 e,.int .u64 g,.int .u64 x,.int .i64 t,.map (some bs),.map (some bn)] 114):=(bX.block b (aI i2)).trans i2;have Af:X.cell? ⟨b,4,none⟩=some (.map (some bs)):=aq kh 4;rw [<-hX];have zX:X.heap.size=wr.heap.size+1:=by rw [hX];simp
 clear hX Sh Si Jk;obtain ⟨D0,oD,mD⟩:=i1.own;have hlen:(ss.take k).length=k:=by rw [List.length_take,aa en];omega
 rw [hlen] at oD;have oX:X.ownsMap prog 22 aT bs k D0:=oD.kept (az bX none) (by simp);have sR:bs<wr.heap.size:=oD.lt;have Y9:bs≠b:=fun e=>iR oD i2 e.symm;have KX:=ae (ag Af hcX);have OX:=ae oX;clear Af hcX oX;refine wp_region_noPanic ?_;refine wp_region_held_drew (S:=fun w'=>w'.cell? ⟨b,4,none⟩=some (.map (some bs))/\w'.cell? ⟨wr.heap.size,0,none⟩=some (.int .u64 I)) (by kernel_rfl) (by exact KX) (fun hS=>?_);refine gD 0 1 2 3 hS ?_;refine fq 4 5 hS ?_;refine bR 6 fun KK hK=>?_;refine mY (by rfl) _ _ _ 111 (by rfl) 22 _ gp underlying111 aT bs k D0 (by rfl) (by exact OX.drew) (by unfold maxLen;omega) (.int .u64 I) (.pointer (some ⟨wr.heap.size,0,none⟩)) (.int .u64 I) (by rfl) (by rfl) xw (.lit (.int .i64 wr.heap.size)) [] rfl ?_;intro w2 vo dY;have zS:X.grownBy w2 (some bs):=ao dY;refine bM hK (by exact ⟨(bq (zS.block b (aI kh) (by simpa using Y9.symm)) _).trans KX.1,(bq (zS.block wr.heap.size (aI WY) (by simp;omega)) _).trans KX.2⟩) fun hS=>?_;clear hK KK;refine wpAnyH_done (by kernel_rfl) ?_ _;refine bc ?_;have cF:oG w w2 bs (ss.take (k+1)) (SB++[wr.heap.size]):=by rw [kU (aa HY)];refine i1.step (I,D,Q) wr.heap.size (az bX none) ay aE.size (.slice pq mq cq) (aa Oe) WY (fun z hz=>?_) mD oD.isMap (by rw [hlen];exact vo) zS;obtain ⟨i,hi,Jc⟩:=qV hz;exact hsd i k z (I,D,Q) Jc (aa HY) hi
 have Fb:w2.ownsMap prog 9 aT bn 0 (.map []):=(i3.kept (az bX none) (by simp)).kept zS (by have:=(aa HEQ);simp;omega)
 have aG:w2.heap[b]?=some (.cells #[.int .u64 e,.int .u64 g,.int .u64 x,.int .i64 t,.map (some bs),.map (some bn)] 114):=(zS.block b (aI kh) (by simpa using Y9.symm)).trans kh;have h62:js w2 w.heap.size e g x t (.slice (some ⟨b0,o,none⟩) n c) (.slice q m d):=(i4.below bX).heap (zS.block w.heap.size (by have:=aE.size;omega) (by have:=aa HEQ;simp;omega));have iD:Below w.heap.size w w2:=br (ai aE bX) zS (by have:=aE.size;omega) (fun j hj=>by cases hj;have:=aa HEQ;omega);have gP:W.heap.size<=w2.heap.size:=by have:=zS.size;omega
 have ir:=ae (ag cF (ag aG (ag Fb h62)));clear cF aG Fb h62 hS vo dY zS i1 i2 i3 i4 kh oD mD WY bX;go_wp2;go_roundw
 case rel=>exact ⟨k+1,_,by omega,by go_num,ir,iD,gP⟩
 case measure=>simp [intOf];omega}
 {
 have aV:¬ (k:Int)<(n:Int):=by omega
 have ui:k=n:=by omega
 subst ui;obtain ⟨i1,i2,i3,i4⟩:=aa fP;rw [List.take_of_length_le (by rw [aa en];exact Nat.le_refl _)] at i1;obtain ⟨j0,j1,j2,j3,j4,j5⟩:=id i4;have I1:=ae i1;have I2:=ae i2;have I3:=ae i3;have I4:=ae i4;clear i1 i2 i3 i4 fP;go_wp2_with fail;clear j0 j1 j2 j3 j4 j5;obtain ⟨Y,eY⟩:=ax wr;subst eY;have BY:=ae aE;have ZY:=ae pR;clear aE pR aU aV hk
 go_loopw [37] (fun iv wr=>∃ (k:Nat) (NB HB UB:List Nat),k<=m/\iv=.int .i64 k/\Hid (mH w wr bn (ns.take k) NB HB UB/\oG w wr bs ss SB/\wr.heap[b]?=some (.cells #[.int .u64 e,.int .u64 g,.int .u64 x,.int .i64 t,.map (some bs),.map (some bn)] 114)/\∀ y∈HB++UB,y≠bs)/\Below w.heap.size w wr/\W.heap.size<=wr.heap.size) (fun iv _=>m-(intOf iv).toNat)
 case atStart=>exact ⟨0,[],[],[],Nat.zero_le _,rfl,⟨mH.empty (aa I3),aa I1,aa I2,by simp⟩,aa BY,aa ZY⟩
 case round =>(
 obtain ⟨j,NB,HB,UB,hk,rfl,fP,aE,pR⟩:=hrel;by_cases aU:j<m;{
 have aV:(j:Int)<(m:Int):=by omega
 have bH:j<ns.length:=by rw [aa em];exact aU
 obtain ⟨nd,hy⟩:∃ y,ns[j]?=some y:=⟨_,aH bH⟩;obtain ⟨b0,o,rfl,hA⟩:=HN0.at (by omega);obtain ⟨P,V,H,U,Fa⟩:=hA j nd hy;obtain ⟨wN,iD,NN,Jq,Su⟩:=aa du _ (aL hy);obtain ⟨hU1,hU2⟩:=aa KE _ (aL hy);obtain ⟨pp,pc,pn,rfl,uj⟩:=Fa.r0.ed;obtain ⟨vq,vc,vn,rfl,Ir⟩:=Fa.r1.ed;obtain ⟨hp,hc,hh,rfl,yr⟩:=Fa.r4.ed;obtain ⟨up,uc,un,rfl,AZ⟩:=Fa.r7.ed;have Ky:pn<=1048576:=by rw [<-aa uj];exact iD
 have Ji:hh<=1048576:=by rw [<-aa yr];exact Jq
 have PF:un<=1048576:=by rw [<-aa AZ];exact Su
 have Ng:=ae Fa;have HY:=ae hy;have HU1:Hid (∀ i∈nd.holders,0<=i/\i<18446744073709551616):=hU1;have HU2:Hid (∀ i∈nd.watchers,0<=i/\i<18446744073709551616):=hU2;have hnr:=Fa.below aE;obtain ⟨c0,c1,c2,c3,c4,c5,c6,c7,-,-,-,-,-⟩:=hnr;obtain ⟨ow,mo,ep,ge,e1,e2,e3,e4⟩:∃ a b c d,nd.owner=a/\nd.mode=b/\nd.aC=c/\nd.gen=d:=⟨_,_,_,_,rfl,rfl,rfl,rfl⟩
 rw [e1] at c2;rw [e2] at c3;rw [e3] at c5;rw [e4] at c6;have HE:=ae (ag e1 (ag e2 (ag e3 e4)));clear bH hy hA Fa wN iD NN Jq Su hU1 hU2 e1 e2 e3 e4;go_wp2_with fail;obtain ⟨X,hX⟩:=ax (wr.alloc (.cells #[.slice pp pn pc,.slice vq vn vc,.int .u64 ow,.int .i64 mo,.slice hp hh hc,.int .u64 ep,.int .u64 ge,.slice up un uc] 103));obtain ⟨C,eC⟩:=ax wr.heap.size;have bX:Below wr.heap.size wr X:=by rw [hX];exact ar.alloc ay _
 have zX:X.heap.size=wr.heap.size+1:=by rw [hX];simp
 obtain ⟨i1,i2,i3,i4⟩:=aa fP;have kh:X.heap[b]?=some (.cells #[.int .u64 e,.int .u64 g,.int .u64 x,.int .i64 t,.map (some bs),.map (some bn)] 114):=(bX.block b (aI i3)).trans i3;have rX:Rd X (.slice pp pn pc) nd.path:=Ng.r0.below (ai aE bX);have KX:Hid (X.cell? ⟨b,5,none⟩=some (.map (some bn))/\X.cell? ⟨C,0,none⟩=some (.slice pp pn pc)/\X.cell? ⟨C,1,none⟩=some (.slice vq vn vc)/\X.cell? ⟨C,2,none⟩=some (.int .u64 ow)/\X.cell? ⟨C,3,none⟩=some (.int .i64 mo)/\X.cell? ⟨C,4,none⟩=some (.slice hp hh hc)/\X.cell? ⟨C,5,none⟩=some (.int .u64 ep)/\X.cell? ⟨C,6,none⟩=some (.int .u64 ge)/\X.cell? ⟨C,7,none⟩=some (.slice up un uc)/\Rd X (.slice pp pn pc) nd.path):=by refine ⟨aq kh 5,?_,?_,?_,?_,?_,?_,?_,?_,rX⟩<;>(rw [hX,eC];simp)
 have uH:iA X (.slice hp hh hc) nd.holders:=Ng.r4.below (ai aE bX);have uU:iA X (.slice up un uc) nd.watchers:=Ng.r7.below (ai aE bX);rw [<-hX,<-eC];have UH:=ae uH;have UU:=ae uU;have HX:=ae (ag bX (ag zX kh));have ir:=fP;clear hX c0 c1 c2 c3 c4 c5 c6 c7 uH uU rX bX zX kh i1 i2 i3 i4 fP;have HCE:=ae eC;clear eC;have cD:keyOf prog 9 (.string (aB nd.path))=some (bj nd.path):=by rw [WideMaps.keyOf_string_mk underlying9 (by rw [dI,aa uj];unfold maxLen;omega),jT]
 have xw:=ae cD;clear cD;refine wp_region_noPanic ?_;refine wp_region_held_drew (S:=fun w'=>w'.cell? ⟨b,5,none⟩=some (.map (some bn))/\w'.cell? ⟨C,0,none⟩=some (.slice pp pn pc)/\w'.cell? ⟨C,1,none⟩=some (.slice vq vn vc)/\w'.cell? ⟨C,2,none⟩=some (.int .u64 ow)/\w'.cell? ⟨C,3,none⟩=some (.int .i64 mo)/\w'.cell? ⟨C,4,none⟩=some (.slice hp hh hc)/\w'.cell? ⟨C,5,none⟩=some (.int .u64 ep)/\w'.cell? ⟨C,6,none⟩=some (.int .u64 ge)/\w'.cell? ⟨C,7,none⟩=some (.slice up un uc)/\Rd w' (.slice pp pn pc) nd.path) (by kernel_rfl) (by exact KX) (fun hS=>?_);refine gD 0 1 2 3 hS ?_;refine fq 4 5 hS ?_;refine wpAnyH_take (i:=6) (oi:=_) (v:=?_) (by simp only [List.getElem?_toArray,List.getElem?_cons_succ,List.getElem?_cons_zero];rfl) (by kernel_rfl) (by kernel_rfl) (by kernel_rfl) (fun _ _ _ h=>h) (Or.inl ⟨by rfl,?_⟩) hS ?_;rotate_left;{(intro w' sS;(try dsimp only at sS);(have hcv:=fU (aa uj) sS.2.2.2.2.2.2.2.2.2);go_simp;try with_reducible rfl)}
 simp only [Act.put,xa,xb,xc];refine fL 7 8 9 10 11 12 13 14 hS ?_;refine gD 15 16 17 18 hS ?_;refine fq 20 21 hS ?_;refine bR 19 fun KK hK=>?_;refine iG (xD hp hc hh nd.holders yr _ (UH.below ar.drew) Ji HU1) ?_;rintro r w2 ⟨D1,rfl,o1,s1,aG,AV⟩;refine ⟨_,rfl,?_⟩;have pZ:Below X.heap.size X w2:=ai (Below.refl X.heap.size X).drew aG;have KX2:Hid (w2.cell? ⟨b,5,none⟩=some (.map (some bn))/\w2.cell? ⟨C,0,none⟩=some (.slice pp pn pc)/\w2.cell? ⟨C,1,none⟩=some (.slice vq vn vc)/\w2.cell? ⟨C,2,none⟩=some (.int .u64 ow)/\w2.cell? ⟨C,3,none⟩=some (.int .i64 mo)/\w2.cell? ⟨C,4,none⟩=some (.slice hp hh hc)/\w2.cell? ⟨C,5,none⟩=some (.int .u64 ep)/\w2.cell? ⟨C,6,none⟩=some (.int .u64 ge)/\w2.cell? ⟨C,7,none⟩=some (.slice up un uc)/\Rd w2 (.slice pp pn pc) nd.path):=by obtain ⟨k0,k1,k2,k3,k4,k5,k6,k7,k8,k9⟩:=aa KX;exact ⟨af k0 pZ,af k1 pZ,af k2 pZ,af k3 pZ,af k4 pZ,af k5 pZ,af k6 pZ,af k7 pZ,af k8 pZ,k9.below pZ⟩
 refine bM hK (by exact KX2) fun hS=>?_;clear hK KK;have zd:X.drew.heap.size=X.heap.size:=rfl;rw [zd] at o1 AV ⊢;obtain ⟨h1,SE⟩:=ax X.heap.size;rw [<-SE] at o1 AV ⊢;have Xp:=ae (ag o1 (ag s1 (ag AV SE)));have rM:=ae pZ;clear o1 s1 aG AV pZ zd SE;refine bR 22 fun KK hK=>?_;refine iG (xD up uc un nd.watchers AZ _ (UU.below rM) PF HU2) ?_;rintro r w3 ⟨D2,rfl,o2,s2,cX,Ny⟩;refine ⟨_,rfl,?_⟩;have KX3:Hid (w3.cell? ⟨b,5,none⟩=some (.map (some bn))/\w3.cell? ⟨C,0,none⟩=some (.slice pp pn pc)/\w3.cell? ⟨C,1,none⟩=some (.slice vq vn vc)/\w3.cell? ⟨C,2,none⟩=some (.int .u64 ow)/\w3.cell? ⟨C,3,none⟩=some (.int .i64 mo)/\w3.cell? ⟨C,4,none⟩=some (.slice hp hh hc)/\w3.cell? ⟨C,5,none⟩=some (.int .u64 ep)/\w3.cell? ⟨C,6,none⟩=some (.int .u64 ge)/\w3.cell? ⟨C,7,none⟩=some (.slice up un uc)/\Rd w3 (.slice pp pn pc) nd.path):=by obtain ⟨k0,k1,k2,k3,k4,k5,k6,k7,k8,k9⟩:=aa KX2;exact ⟨af k0 cX,af k1 cX,af k2 cX,af k3 cX,af k4 cX,af k5 cX,af k6 cX,af k7 cX,af k8 cX,k9.below cX⟩
 refine bM hK (by exact KX3) fun hS=>?_;clear hK KK;obtain ⟨u1,Sz⟩:=ax w2.heap.size;rw [<-Sz] at o2 Ny ⊢;have HO2:=ae (ag o2 (ag s2 (ag Ny Sz)));have qw:=ae cX;clear o2 s2 cX Ny Sz;refine tn 23 hS ?_;refine bR 24 fun KK hK=>?_;refine JG (by rfl) 119 _ (by rfl) (.agg #[.slice vq vn vc,.int .u64 ow,.int .i64 mo,.map (some h1),.int .u64 ep,.int .u64 ge,.map (some u1)]) (by rfl) _ _ (BK _ _ _ _ _ _ _ _) ?_;obtain ⟨Z,eZ⟩:=ax (w3.alloc (.cells #[.slice vq vn vc,.int .u64 ow,.int .i64 mo,.map (some h1),.int .u64 ep,.int .u64 ge,.map (some u1)] 119));have bZ:Below w3.heap.size w3 Z:=by rw [eZ];exact ar.alloc ay _
 have hZ:Z.heap[w3.heap.size]?=some (.cells #[.slice vq vn vc,.int .u64 ow,.int .i64 mo,.map (some h1),.int .u64 ep,.int .u64 ge,.map (some u1)] 119):=by rw [eZ];exact (MapKept.heap_alloc w3 _).1
 rw [<-eZ];clear eZ;have KX4:Hid (Z.cell? ⟨b,5,none⟩=some (.map (some bn))/\Z.cell? ⟨C,0,none⟩=some (.slice pp pn pc)/\Z.cell? ⟨C,1,none⟩=some (.slice vq vn vc)/\Z.cell? ⟨C,2,none⟩=some (.int .u64 ow)/\Z.cell? ⟨C,3,none⟩=some (.int .i64 mo)/\Z.cell? ⟨C,4,none⟩=some (.slice hp hh hc)/\Z.cell? ⟨C,5,none⟩=some (.int .u64 ep)/\Z.cell? ⟨C,6,none⟩=some (.int .u64 ge)/\Z.cell? ⟨C,7,none⟩=some (.slice up un uc)/\Rd Z (.slice pp pn pc) nd.path):=by obtain ⟨k0,k1,k2,k3,k4,k5,k6,k7,k8,k9⟩:=aa KX3;exact ⟨af k0 bZ,af k1 bZ,af k2 bZ,af k3 bZ,af k4 bZ,af k5 bZ,af k6 bZ,af k7 bZ,af k8 bZ,k9.below bZ⟩
 refine bM hK (by exact KX4) fun hS=>?_;clear hK KK;obtain ⟨g1,BS⟩:=ax w3.heap.size;rw [<-BS] at hZ ⊢;have WD:Below X.heap.size X Z:=ai (ai rM qw) bZ;obtain ⟨i1,i2,i3,i4⟩:=aa ir;obtain ⟨bX,zX,kh⟩:=aa HX;obtain ⟨o1,s1,AV,SE⟩:=aa Xp;obtain ⟨o2,s2,Ny,Sz⟩:=aa HO2;have MR:Below wr.heap.size wr Z:=ai bX WD;obtain ⟨D0,oD,mD⟩:=i1.own;have hlen:(ns.take j).length=j:=by rw [List.length_take,aa em];omega
 rw [hlen] at oD;have oZ:Z.ownsMap prog 9 aT bn j D0:=oD.kept (az MR none) (by simp);have q1:Z.ownsMap prog 22 unitElem h1 hh D1:=(o1.kept (az (aa qw) none) (by simp)).kept (az bZ none) (by simp);have q2:Z.ownsMap prog 22 unitElem u1 un D2:=o2.kept (az bZ none) (by simp);have lt3:=qw.size;have lt2:=rM.size;have qD:=oD.lt;have HQ:=ae (ag q1 (ag q2 (ag s1 s2)));have aR5:=ae (ag AV (ag SE (ag Ny (ag Sz (ag BS (ag zX (ag lt2 (ag lt3 qD))))))));have HOZ:=ae oZ;have af5:=ae (ag hZ (ag MR (ag oD mD)));clear q1 q2 s1 s2 AV SE Ny Sz BS zX lt2 lt3 qD oZ hZ MR oD mD i1 i2 i3 i4 bX kh o1 o2 WD bZ;refine bR 25 fun KK hK=>?_;refine mY (by rfl) _ _ _ 112 (by rfl) 9 _ ke underlying112 aT bn j D0 (by rfl) (by exact HOZ) (by unfold maxLen;omega) (.string (aB nd.path)) (.pointer (some ⟨g1,0,none⟩)) (bj nd.path) (by rfl) (by rfl) xw (.lit (.int .i64 g1)) [] rfl ?_;intro w4 sN qz;obtain ⟨hZ,MR,oD,mD⟩:=aa af5;obtain ⟨i1,i2,i3,i4⟩:=aa ir;obtain ⟨q1,q2,s1,s2⟩:=aa HQ;obtain ⟨AV,SE,Ny,Sz,BS,zX,lt2,lt3,qD⟩:=aa aR5;have aA5:=qz.size;have zZ:=aI hZ;have zRZ:=MR.size;have aG2:=aE.size;obtain ⟨eb,SJ,SI,zW⟩:=aa HEQ;have hCe:=aa HCE;have Qg:Z.heap[b]?=some (.cells #[.int .u64 e,.int .u64 g,.int .u64 x,.int .i64 t,.map (some bs),.map (some bn)] 114):=(MR.block b (aI i3)).trans i3;have nb:b≠bn:=by omega
 have nC:C≠bn:=by omega
 have KX5:Hid (w4.cell? ⟨b,5,none⟩=some (.map (some bn))/\w4.cell? ⟨C,0,none⟩=some (.slice pp pn pc)/\w4.cell? ⟨C,1,none⟩=some (.slice vq vn vc)/\w4.cell? ⟨C,2,none⟩=some (.int .u64 ow)/\w4.cell? ⟨C,3,none⟩=some (.int .i64 mo)/\w4.cell? ⟨C,4,none⟩=some (.slice hp hh hc)/\w4.cell? ⟨C,5,none⟩=some (.int .u64 ep)/\w4.cell? ⟨C,6,none⟩=some (.int .u64 ge)/\w4.cell? ⟨C,7,none⟩=some (.slice up un uc)/\Rd w4 (.slice pp pn pc) nd.path):=by
  obtain ⟨k0,k1,k2,k3,k4,k5,k6,k7,k8,k9⟩:=aa KX4;have hC:=qz.block C (by omega) (by simpa using nC);exact ⟨(bq (qz.block b (aI Qg) (by simpa using nb)) _).trans k0,(bq hC _).trans k1,(bq hC _).trans k2,(bq hC _).trans k3,(bq hC _).trans k4,(bq hC _).trans k5,(bq hC _).trans k6,(bq hC _).trans k7,(bq hC _).trans k8,
   Ng.r0.below (br (ai aE MR) qz (by omega) (fun j hj=>by cases hj;omega))⟩
 refine bM hK (by exact KX5) fun hS=>?_;clear hK KK;refine wpAnyH_done (by kernel_rfl) ?_ _;refine bc ?_;obtain ⟨e1,e2,e3,e4⟩:=aa HE;have cF:mH w w4 bn (ns.take (j+1)) (NB++[g1]) (HB++[h1]) (UB++[u1]):=by rw [kU (aa HY)];refine i1.step nd g1 h1 u1 (az MR none) (by omega) (by omega) (by omega) (by omega) aE.size (.slice vq vn vc) Ng.r1 (by rw [e1,e2,e3,e4];exact hZ) (by rw [aa yr];exact q1) s1 (by rw [aa AZ];exact q2) s2 (fun z hz=>?_) mD oD.isMap (by rw [hlen];exact sN) qz;obtain ⟨i,hi,Jc⟩:=qV hz;intro ee;exact bf i j z nd Jc (aa HY) hi (jc (aa du z (aL Jc)).1 (aa du nd (aL (aa HY))).1 ee)
 have hse:oG w w4 bs ss SB:=(i2.kept (az MR none) (by simp) (by simp)).kept qz (by simp;omega) (fun y hy=>by obtain ⟨i,hi⟩:=List.getElem?_of_mem hy;obtain ⟨s,hs⟩:∃ s,ss[i]?=some s:=⟨_,aH (by rw [<-i2.len];exact (aM.1 hi).1)⟩;obtain ⟨_,u,a2,_⟩:=i2.aF i s y hs hi;have:=iR oD a2;simpa using this)
 have fk:w4.heap[b]?=some (.cells #[.int .u64 e,.int .u64 g,.int .u64 x,.int .i64 t,.map (some bs),.map (some bn)] 114):=(qz.block b (aI Qg) (by simpa using nb)).trans Qg;have Jq:Below w.heap.size w w4:=br (ai aE MR) qz (by omega) (fun j hj=>by cases hj;omega);have Up:W.heap.size<=w4.heap.size:=by omega
 have hd4:∀ y∈(HB++[h1])++(UB++[u1]),y≠bs:=by intro y hy;simp only [List.mem_append,List.mem_singleton] at hy;rcases hy with (hy | rfl) | (hy | rfl);{exact i4 y (List.mem_append.2 (.inl hy))};{omega};{exact i4 y (List.mem_append.2 (.inr hy))};{omega}
 have aS1:=ae (ag cF (ag hse (ag fk hd4)));clear cF hse fk hd4 hS sN qz i1 i2 i3 i4 q1 q2 s1 s2 AV SE Ny Sz BS zX lt2 lt3 qD eb SJ SI zW hCe hZ MR oD mD Qg e1 e2 e3 e4 aA5 aG2 nb nC zZ zRZ KX KX2 KX3 KX4 KX5;go_wp2;go_roundw
 case rel=>exact ⟨j+1,_,_,_,by omega,by go_num,aS1,Jq,Up⟩
 case measure=>simp [intOf];omega}
 {
 have aV:¬ (j:Int)<(m:Int):=by omega
 have ekm:j=m:=by omega
 subst ekm;obtain ⟨i1,i2,i3,i4⟩:=aa fP;rw [List.take_of_length_le (by rw [aa em];exact Nat.le_refl _)] at i1;obtain ⟨eb,SJ,SI,zW⟩:=aa HEQ;have pX:jO w wr b bs bn e g x t ss ns SB NB HB UB:=⟨i3,i2,i1,by omega,by rw [List.nodup_cons];refine ⟨fun eh=>?_,i1.Aw⟩;rcases List.mem_cons.1 eh with hh | hh;{omega};{exact i4 _ hh rfl}⟩
 have aS6:=ae pX;clear i1 i2 i3 i4 eb SJ SI zW pX;go_wp2;go_ret;exact ⟨b,rfl,⟨bs,bn,SB,NB,HB,UB,aS6⟩,aE⟩})})
namespace Q
open Go.Sort
theorem sG:SWO ltInt:=swo_ltInt
abbrev Left (a b a1 b1:Nat) (d dk:Array Int):Prop:=∀ R,PermIn a1 b1 dk R->SortedIn ltInt a1 b1 R->PermIn a b d R/\SortedIn ltInt a b R
theorem O7 (aF off cap N:Nat) (fH:N<=1048576):∀ (n a b:Nat) (Ck:Int) (d:Array Int) (w:World),Hid (b-a=n)->Hid (d.size=N)->HU w aF off d->aF<w.heap.size->a<=b->b<=N->0<=Ck->Ck<=64->Go.Sort.Below ltInt a b d →
  Calls prog 160 #[.slice (some ⟨aF,off,none⟩) N cap,.int .i64 a,.int .i64 b,.int .i64 Ck] w fun e w'=>
   e=.returned (.tuple #[])/\∃ d',HU w' aF off d'/\PermIn a b d d'/\SortedIn ltInt a b d'/\w.grownBy w' (some aF):=by
 intro n
 induction n using Nat.strongRecOn with
 | _ n ih=>
  intro a b Ck d w hn hN h iB wF hb tY Nz hB;have IH:=ae ih;have H0:=ae h;have B0:=ae hB;go_enter func160,ntmps160;go_wp2_with fail
  go_loopw [1,2,3,8,9] (fun s1 s2 s3 s8 s9 wr=>∃ (a1 b1:Nat) (li:Int) (p q:Bool) (dk:Array Int),s1=.int .i64 a1/\s2=.int .i64 b1/\s3=.int .i64 li/\s8=.bool p/\s9=.bool q/\a<=a1/\a1<=b1/\b1<=b/\0<=li/\li<=64/\Hid (dk.size=N)/\Hid (HU wr aF off dk)/\Hid (Go.Sort.Below ltInt a1 b1 dk)/\Hid (Left a b a1 b1 d dk)/\Hid (w.grownBy wr (some aF))) (fun s1 s2 _ _ _ _=>(intOf s2-intOf s1).toNat)
  case atStart=>exact ⟨a,b,Ck,true,true,d,rfl,rfl,rfl,rfl,rfl,Nat.le_refl _,wF,Nat.le_refl _,tY,Nz,hN,H0,B0,fun R h1 h2=>⟨h1,h2⟩,kx _ _⟩
  case round =>(
 obtain ⟨a1,b1,li,p,q,dk,rfl,rfl,rfl,rfl,rfl,z1,z2,z3,z4,z5,hD,hH,hB,hF,hG⟩:=hrel;obtain ⟨L,eL⟩:∃ x:Nat,(b1:Int)-(a1:Int)=(x:Int):=⟨b1-a1,by omega⟩;have wL:IntKind.i64.wrap (L:Int)=(L:Int):=IntWalk.i64_in _ (by omega);have AE:b1<=N:=by omega
 by_cases Vs:L<=12;{
 have aJ9:(L:Int)<=12:=by omega
 go_wp2_with fail;refine (Px aF off cap N a1 b1 dk hD _ hH z2 AE fH).mono ?_;rintro e w1 ⟨rfl,oq,dS⟩;have HH1:=ae oq;have HG1:=ae (aO hG dS);go_wp2;refine bodyPost_ret (results_none (h:=rfl) _ _ _) rfl ⟨rfl,_,HH1,?_,?_,HG1⟩;{have:=insertionSort_holds sG dk a1 b1 z2 (by rw [aa hD];exact AE);exact (aa hF _ this.1 this.2).1};{have:=insertionSort_holds sG dk a1 b1 z2 (by rw [aa hD];exact AE);exact (aa hF _ this.1 this.2).2}};{
 have aJ9:¬ (L:Int)<=12:=by omega
 by_cases hli:li=0;{subst hli;go_wp2_with fail;refine (La aF off cap N a1 b1 dk hD _ hH z2 AE fH).mono ?_;rintro e w1 ⟨rfl,oq,dS⟩;have HH1:=ae oq;have HG1:=ae (aO hG dS);go_wp2;refine bodyPost_ret (results_none (h:=rfl) _ _ _) rfl ⟨rfl,_,HH1,?_,?_,HG1⟩;{have:=heapSort_holds sG dk a1 b1 z2 (by rw [aa hD];exact AE);exact (aa hF _ this.1 this.2).1};{have:=heapSort_holds sG dk a1 b1 z2 (by rw [aa hD];exact AE);exact (aa hF _ this.1 this.2).2}};{
 have h8:a1+8<=b1:=by omega
 go_upto_if 35 with fail
 go_cut [3] (fun s3 wc=>∃ (lj:Int) (d1:Array Int),s3=.int .i64 lj/\0<=lj/\lj<=64/\Hid (d1.size=N)/\Hid (HU wc aF off d1)/\Hid (PermIn a1 b1 dk d1)/\Hid (w.grownBy wc (some aF)))
 case first =>(
 cases p with
 | true=>
  go_wp2_with fail;go_meet;exact ⟨li,dk,rfl,z4,z5,hD,hH,permIn_refl dk a1 b1,hG⟩
 | false=>
  go_wp2_with fail;refine (IM aF off cap N a1 b1 dk hD _ hH (Nat.lt_of_lt_of_le iB hG.size) h8 AE fH).mono ?_;rintro e w1 ⟨rfl,d1,oq,GH,dS⟩;have HH1:=ae oq;have Oh:=ae GH;have HG1:=ae (aO hG dS);go_wp2_with fail;go_meet;exact ⟨li-1,d1,by first | rfl | go_num,by omega,by omega,Oh.1.trans hD,HH1,Oh,HG1⟩)
 obtain ⟨lj,d1,rfl,y1,y2,NJ,oq,GH,ri⟩:=hcut;obtain ⟨Y1,eY1⟩:=ax wc;subst eY1;go_wp2_with fail;refine (Hk aF off cap N a1 b1 d1 NJ _ oq (Nat.lt_of_lt_of_le iB ri.size) h8 AE fH).mono ?_;rintro e w2 ⟨pv,t,rfl,v1,v2,py,dY⟩;have Wv:=ae py;have HG2:=ae (aO ri dY)
 go_upto_if 50 with fail
 go_cut [11,12] (fun XH s12 wc=>∃ (pw:Nat) (tt:Int) (d2:Array Int),XH=.int .i64 pw/\s12=.int .i64 tt/\a1<=pw/\pw<b1/\Hid (d2.size=N)/\Hid (HU wc aF off d2)/\Hid (PermIn a1 b1 d1 d2)/\Hid (w.grownBy wc (some aF)))
 case first =>(
 by_cases ht:t=2;{
 subst ht;have q1:IntKind.i64.wrap ((b1:Int)-1)=(b1:Int)-1:=IntWalk.i64_in _ (by omega);have q2:IntKind.i64.wrap ((pv:Int)-(a1:Int))=(pv:Int)-(a1:Int):=IntWalk.i64_in _ (by omega);obtain ⟨nv,env⟩:∃ x:Nat,(b1:Int)-1-((pv:Int)-(a1:Int))=(x:Int):=⟨b1-1-(pv-a1),by omega⟩;have q3:IntKind.i64.wrap (nv:Int)=(nv:Int):=IntWalk.i64_in _ (by omega);have bn:a1<=nv/\nv<b1:=by omega
 go_wp2_with fail;refine (OQ aF off cap N a1 b1 d1 NJ _ Wv z2 AE fH).mono ?_;rintro e w3 ⟨rfl,vG,pf⟩;have HH3:=ae vG;have HG3:=ae (aO HG2 pf);have HP3:=ae (reverseRange_holds d1 a1 b1 z2 (by rw [aa NJ];exact AE));go_wp2_with fail;go_meet;exact ⟨nv,1,_,rfl,rfl,bn.1,bn.2,HP3.1.trans NJ,HH3,HP3,HG3⟩};{
 have ht':(t==2)=false:=by simp [ht]
 go_wp2_with fail;go_meet;exact ⟨pv,t,d1,rfl,rfl,v1,v2,NJ,Wv,permIn_refl d1 a1 b1,HG2⟩})
 obtain ⟨pw,tt,d2,rfl,rfl,x1,x2,ZJ,py,Aj,Ln⟩:=hcut;obtain ⟨Y2,VM⟩:=ax wc;subst VM
 go_upto_region 15 with fail
 go_cut [68] (fun s68 wc=>∃ Bq:Bool,s68=.bool Bq/\wc=Y2)
 case first =>(
 cases p<;>cases q
 all_goals
  go_wp2_with fail;go_meet;exact ⟨_,rfl,rfl⟩)
 obtain ⟨Bq,rfl,rfl⟩:=hcut
 go_upto_if 68 with fail
 go_cut [72] (fun s72 wc=>∃ d3:Array Int,Hid (d3.size=N)/\Hid (HU wc aF off d3)/\Hid (PermIn a1 b1 d2 d3)/\Hid (w.grownBy wc (some aF)))
 case first =>(
 cases Bq with
 | false=>
  go_wp2_with fail;go_meet;exact ⟨d2,ZJ,py,permIn_refl d2 a1 b1,Ln⟩
 | true=>
  go_wp2_with fail;refine (Hl aF off cap N a1 b1 d2 ZJ _ py (by omega) AE fH).mono ?_;have iD:Go.Sort.Below ltInt a1 b1 d2:=(hB.perm (by rw [aa hD];exact AE) (aa GH)).perm (by rw [aa NJ];exact AE) (aa Aj);have Wr:=ae (partialInsertionSort_holds sG d2 a1 b1 (by omega) (by rw [aa ZJ];exact AE) iD);generalize partialInsertionSort ltInt d2 a1 b1=R at Wr;obtain ⟨R1,R2⟩:=R;rintro e w3 ⟨rfl,vG,pf⟩;have HH3:=ae vG;have HG3:=ae (aO Ln pf);cases R2 with
  | true=>
   go_wp2;refine bodyPost_ret (results_none (h:=rfl) _ _ _) rfl ⟨rfl,R1,HH3,?_,?_,HG3⟩;{exact (aa hF R1 (permIn_trans _ _ _ a1 b1 (permIn_trans _ _ _ a1 b1 GH Aj) Wr.1) (Wr.2 (by first | trivial | rfl))).1};{exact (aa hF R1 (permIn_trans _ _ _ a1 b1 (permIn_trans _ _ _ a1 b1 GH Aj) Wr.1) (Wr.2 (by first | trivial | rfl))).2}
  | false=>
   go_wp2_with fail;go_meet;exact ⟨R1,Wr.1.1.trans ZJ,HH3,Wr.1,HG3⟩)
 obtain ⟨d3,Vl,vG,Zs,Qq⟩:=hcut;obtain ⟨Y3,eY3⟩:=ax wc;subst eY3;have hP3:Hid (PermIn a1 b1 dk d3):=permIn_trans _ _ _ a1 b1 (permIn_trans _ _ _ a1 b1 GH Aj) Zs;have NN:Hid (Go.Sort.Below ltInt a1 b1 d3):=hB.perm (by rw [aa hD];exact AE) (aa hP3)
 go_upto_region 17 with fail
 go_cut [87] (fun s87 wc=>∃ B:Bool,s87=.bool B/\Hid (B=true->0<a1/\ltInt d3[a1-1]! d3[pw]! = false)/\wc=Y3.drew)
 case first =>(
 by_cases ha:0<a1;{
 have Sj:(0:Int)<(a1:Int):=by omega
 have qc:(a1:Int)>0:=by omega
 obtain ⟨m,em⟩:∃ x:Nat,(a1:Int)-1=(x:Int):=⟨a1-1,by omega⟩;have NQ:a1-1=m:=by omega
 have wm:IntKind.i64.wrap (m:Int)=(m:Int):=IntWalk.i64_in _ (by omega);have oC:=aa Vl;obtain ⟨c1,-⟩:=aa vG m (by omega);obtain ⟨c2,-⟩:=aa vG pw (by omega);obtain ⟨x,ex⟩:∃ x,d3[m]! = x:=⟨_,rfl⟩;obtain ⟨y,ey⟩:∃ y,d3[pw]! = y:=⟨_,rfl⟩;rw [ex] at c1;rw [ey] at c2;have k1:(m:Int)<(N:Int):=by omega
 have k2:(pw:Int)<(N:Int):=by omega
 have k3:(0:Int)<=(m:Int):=by omega
 obtain ⟨Lt,eLt⟩:=aZ (ltInt x y);have EL:=ae eLt;have HX:Hid ((!Lt)=true->0<a1/\ltInt d3[a1-1]! d3[pw]! = false):=fun bu=>⟨ha,by rw [NQ,ex,ey,eLt];simpa using bu⟩;have K0:=ae (ag c1 c2);refine wp_region_noPanic ?_;refine wp_region_held_drew (S:=fun w'=>w'.cell? ⟨aF,off+m,none⟩=some (.int .u64 x)/\w'.cell? ⟨aF,off+pw,none⟩=some (.int .u64 y)) (by kernel_rfl) (by exact K0) (fun hS=>?_);refine fL 0 1 2 3 4 5 6 7 hS ?_;refine gD 8 9 10 11 hS ?_;refine bR 12 fun KK hK=>?_;refine bL (by rfl) 173 _ _ _ (by rfl) (.int .u64 x) (.int .u64 y) (by rfl) (by rfl) (fun _=>dL _ _) (dK x y _) ?_;rintro r' w2' ⟨rfl,rfl⟩;refine ⟨_,rfl,?_⟩;rw [aa EL];refine bM hK (by exact K0) fun hS=>?_;refine fq 13 14 hS ?_;refine wpAnyH_done (by kernel_rfl) ?_ _;refine bc ?_;go_wp2_with fail;go_meet;exact ⟨_,rfl,HX,rfl⟩};{
 have Sj:¬ (0:Int)<(a1:Int):=by omega
 refine wp_region_noPanic ?_;refine wp_region_held_drew (S:=fun w'=>True) (by kernel_rfl) trivial (fun hS=>?_);refine fq 0 1 hS ?_;refine tn 2 hS ?_;refine sn 3 hS ?_;refine sn 4 hS ?_;refine sn 5 hS ?_;refine sn 6 hS ?_;refine sn 7 hS ?_;refine sn 8 hS ?_;refine sn 9 hS ?_;refine sn 10 hS ?_;refine sn 11 hS ?_;refine sn 12 hS ?_;refine sn 13 hS ?_;refine tn 14 hS ?_;refine wpAnyH_done (by kernel_rfl) ?_ _;refine bc ?_;go_wp2_with fail;go_meet;exact ⟨false,rfl,(fun h=>by cases h),rfl⟩})
 obtain ⟨B,rfl,hBB,rfl⟩:=hcut;cases B with
 | true=>
  obtain ⟨⟨mid,d4⟩,VO⟩:∃ R,partitionEqual ltInt d3 a1 b1 pw=R:=⟨_,rfl⟩;have hc:=Es aF off cap N a1 b1 pw d3 Vl Y3.drew vG x1 x2 AE fH;rw [VO] at hc;obtain ⟨m1,m2,m3,m4,m5⟩:=round_eq sG (partitionEqual_holds ltInt) (aa hBB rfl).1 x1 x2 (by rw [aa Vl];exact AE) (aa NN) (aa hBB rfl).2 VO;have Oj:Hid (d4.size=N):=m3.trans Vl;have DL:=ae m4;have HL4:Hid (Left a b mid b1 d d4):=fun R r1 r2=>by have:=m5 R r1 r2;exact hF R (permIn_trans _ _ _ a1 b1 hP3 this.1) this.2
  go_wp2_with fail;refine hc.mono ?_;rintro e w4 ⟨rfl,xq,qz⟩;have HH4:=ae xq;have Xq:=ae (aO (ao Qq) qz);go_wp2;go_roundw
  case rel=>exact ⟨mid,b1,lj,p,q,d4,rfl,rfl,rfl,rfl,rfl,by omega,by omega,by omega,by omega,by omega,Oj,HH4,DL,HL4,Xq⟩
  case measure=>simp [intOf];omega
 | false=>
  obtain ⟨⟨mid,ap,d4⟩,VO⟩:∃ R,partition ltInt d3 a1 b1 pw=R:=⟨_,rfl⟩;have hc:=JU aF off cap N a1 b1 pw d3 Vl Y3.drew vG x1 x2 AE fH;rw [VO] at hc;obtain ⟨m1,m2,m3,m4,m5,m6,m7⟩:=round_part sG (partition_holds ltInt) x1 x2 (by rw [aa Vl];exact AE) (aa NN) VO;have Oj:Hid (d4.size=N):=m3.trans Vl;have DL:=ae m4;have pB:=ae m5;have HL6:=ae m6;have HL7:=ae m7;obtain ⟨lL,elL⟩:∃ x:Nat,(mid:Int)-(a1:Int)=(x:Int):=⟨mid-a1,by omega⟩;obtain ⟨rL,erL⟩:∃ x:Nat,(b1:Int)-(mid:Int)=(x:Int):=⟨b1-mid,by omega⟩;have wlL:IntKind.i64.wrap (lL:Int)=(lL:Int):=IntWalk.i64_in _ (by omega);have wrL:IntKind.i64.wrap (rL:Int)=(rL:Int):=IntWalk.i64_in _ (by omega);obtain ⟨th,eth⟩:∃ x:Nat,(L:Int) / 8=(x:Int):=⟨L / 8,by omega⟩;have bH8:Int.tdiv (L:Int) 8=(th:Int):=by rw [<-eth];exact Int.tdiv_eq_ediv_of_nonneg (by omega)
  have wth:IntKind.i64.wrap (th:Int)=(th:Int):=IntWalk.i64_in _ (by omega);go_wp2_with fail;refine hc.mono ?_;rintro e w4 ⟨rfl,xq,qz⟩;have HH4:=ae xq;have Xq:=ae (aO (ao Qq) qz);by_cases hlr:lL<rL;{
 have aC5:(lL:Int)<(rL:Int):=by omega
 go_wp2_with fail;refine (aa IH (mid-a1) (by have:=aa hn;omega) a1 mid lj d4 _ rfl Oj HH4 (Nat.lt_of_lt_of_le iB Xq.size) m1 (by omega) y1 y2 DL).mono ?_;rintro e w5 ⟨rfl,d5,vF,Qn,Zm,oB⟩;have HH5:=ae vF;have HG5:=ae (aO Xq oB);obtain ⟨o1,o2⟩:=aa HL6 d5 Qn Zm;have Wz:=ae o1;have Wx:Hid (d5.size=N):=Qn.1.trans Oj;have Wu:Hid (Left a b (mid+1) b1 d d5):=fun R r1 r2=>by have:=o2 R r1 r2;exact hF R (permIn_trans _ _ _ a1 b1 hP3 this.1) this.2
 go_wp2;go_roundw
 case rel=>exact ⟨mid+1,b1,lj,_,ap,d5,by first | rfl | go_num,rfl,rfl,rfl,rfl,by omega,by omega,by omega,by omega,by omega,Wx,HH5,Wz,Wu,HG5⟩
 case measure=>simp [intOf];omega}
  {
 have aC5:¬ (lL:Int)<(rL:Int):=by omega
 obtain ⟨mp,emp⟩:∃ x:Nat,(mid:Int)+1=(x:Int):=⟨mid+1,by omega⟩;have Z9:mid+1=mp:=by omega
 have wmp:IntKind.i64.wrap (mp:Int)=(mp:Int):=IntWalk.i64_in _ (by omega);rw [Z9] at pB HL7;go_wp2_with fail;refine (aa IH (b1-mp) (by have:=aa hn;omega) mp b1 lj d4 _ rfl Oj HH4 (Nat.lt_of_lt_of_le iB Xq.size) (by omega) (by omega) y1 y2 pB).mono ?_;rintro e w5 ⟨rfl,d5,vF,Qn,Zm,oB⟩;have HH5:=ae vF;have HG5:=ae (aO Xq oB);obtain ⟨o1,o2⟩:=aa HL7 d5 Qn Zm;have Wz:=ae o1;have Wx:Hid (d5.size=N):=Qn.1.trans Oj;have Wu:Hid (Left a b a1 mid d d5):=fun R r1 r2=>by have:=o2 R r1 r2;exact hF R (permIn_trans _ _ _ a1 b1 hP3 this.1) this.2
 go_wp2;go_roundw
 case rel=>exact ⟨a1,mid,lj,_,ap,d5,rfl,rfl,rfl,rfl,rfl,by omega,by omega,by omega,by omega,by omega,Wx,HH5,Wz,Wu,HG5⟩
 case measure=>simp [intOf];omega}}})
end Q
namespace Q
open Go.Sort
theorem Pw (cap:Nat) (w:World):Calls prog 167 #[.slice none 0 cap,.int .i64 0,.int .i64 0] w fun e w'=>e=.returned (.tuple #[])/\w'=w:=by
 go_enter func167,ntmps167;go_wp2_with fail
 go_loopw [6] (fun s6 wr=>s6=.int .i64 1/\wr=w) (fun _ _=>0)
 case atStart=>exact ⟨rfl,rfl⟩
 case round =>(
 obtain ⟨rfl,rfl⟩:=hrel;go_wp2
 go_end0
 exact ⟨rfl,rfl⟩)
theorem O0 (cap:Nat) (w:World):Calls prog 160 #[.slice none 0 cap,.int .i64 0,.int .i64 0,.int .i64 0] w fun e w'=>e=.returned (.tuple #[])/\w'=w:=by
 go_enter func160,ntmps160;go_wp2_with fail
 go_loopw [1,2,3,8,9] (fun s1 s2 s3 s8 s9 wr=>s1=.int .i64 0/\s2=.int .i64 0/\s3=.int .i64 0/\s8=.bool true/\s9=.bool true/\wr=w) (fun _ _ _ _ _ _=>0)
 case atStart=>exact ⟨rfl,rfl,rfl,rfl,rfl,rfl⟩
 case round =>(
 obtain ⟨rfl,rfl,rfl,rfl,rfl,rfl⟩:=hrel;go_wp2_with fail;refine (Pw cap _).mono ?_;rintro e w1 ⟨rfl,rfl⟩;go_wp2;exact bodyPost_ret (results_none (h:=rfl) _ _ _) rfl ⟨rfl,rfl⟩)
theorem uE (cap:Nat) (w:World):Calls prog 149 #[.slice none 0 cap] w fun e w'=>e=.returned (.tuple #[])/\w'=w:=by
 have hL:=zk 0 (by omega);have e0:Lib.bitLen 0=0:=by decide
 rw [e0] at hL;go_enter func149,ntmps149;go_wp2_with fail;refine (hL _).mono ?_;rintro e w1 ⟨rfl,rfl⟩;go_wp2_with fail;refine (O0 cap _).mono ?_;rintro e w1 ⟨rfl,rfl⟩;go_wp2
 go_end0
 exact ⟨rfl,rfl⟩
theorem JJ (aF off cap N:Nat) (d:Array Int) (hN:Hid (d.size=N)) (fH:N<=1048576) (w:World) (h:HU w aF off d) (iB:aF<w.heap.size) :
  Calls prog 149 #[.slice (some ⟨aF,off,none⟩) N cap] w fun e w'=>
   e=.returned (.tuple #[])/\∃ d',HU w' aF off d'/\PermIn 0 N d d'/\SortedIn ltInt 0 N d'/\w.grownBy w' (some aF):=by
 have hL:=zk N fH;have hK:Lib.bitLen N<=21:=Lib.bitLen_le N 21 (by omega) (by omega);generalize Lib.bitLen N=K at hL hK;have wU:IntKind.u64.wrap (N:Int)=(N:Int):=by rw [IntKind.wrap_u64];omega
 have H0:=ae h;clear h;go_enter func149,ntmps149;go_wp2_with fail;refine (hL _).mono ?_;rintro e w1 ⟨rfl,rfl⟩;go_wp2_with fail;refine (O7 aF off cap N fH N 0 N K d _ (by show _=_;omega) hN H0 iB (Nat.zero_le _) ay (by omega) (by omega) (Or.inl rfl)).mono ?_;rintro e w2 ⟨rfl,d',hH,hP,hS,hg⟩;have HH:=ae hH;have HP:=ae hP;have HS:=ae hS;have HG:=ae hg;clear hH hP hS hg;go_wp2
 go_end0
 exact ⟨rfl,d',HH,HP,HS,HG⟩
theorem sc (aF off cap:Nat) (l:List Int) (fH:l.length<=1048576) (w:World) (h:HU w aF off l.toArray) (iB:aF<w.heap.size) :
  Calls prog 149 #[.slice (some ⟨aF,off,none⟩) l.length cap] w fun e w'=>
   e=.returned (.tuple #[])/\HU w' aF off (l.mergeSort (fun x y=>decide (x<=y))).toArray/\w.grownBy w' (some aF):=by
 refine (JJ aF off cap l.length l.toArray (by show _=_;simp) fH w h iB).mono ?_;rintro e w' ⟨rfl,d',hH,hP,hS,hg⟩;refine ⟨rfl,?_,hg⟩;have e:=sorted_unique_holds sG (fun x y h1 h2=>by simp [ltInt] at h1 h2;omega) l.toArray d' (by simpa using hP) (by simpa using hS);have e2:(fun x y:Int=>!ltInt y x)=(fun x y=>decide (x<=y)):=by
  funext x y
  by_cases hh:x<=y;{rw [decide_eq_true hh];simp [ltInt];omega};{rw [decide_eq_false hh];simp [ltInt];omega}
 rw [e2] at e;have e3:d'=(l.mergeSort (fun x y=>decide (x<=y))).toArray:=by rw [<-show d'.toList.toArray=d' from by simp,e]
 rw [<-e3];exact hH
end Q
namespace Q
open Go.Sort
theorem qi (n:Nat) (hn:3<=n) (g:Nat) (lb:Array Value) (eg:∀ args w,(callFunc g args).run prog w=.ok (.enter g args) w)
  (S Sp:List Int->Prop) (N:Nat) (hN:N<=1048576) (w:World) (nH:SeqStopsK Fence.wide (n-1-1) prog g lb (fun x:Int=>#[dG x]) KeepsWalks S Sp N w) :
  CallsIn Fence.wide n prog 148 #[.func (.func g) #[] lb] w fun e w'=>∃ (v:Value) (ss:List Int),e=.returned v/\S ss/\w'.ownsRow (w.heap.size+1) 22 1 v ss.length (ss.map dG)/\(v=.slice none 0 0↔ss=[])/\Below w.heap.size w w':=by
 have h1:1<=n:=by omega
 have WT:Fence.wide.fn 159:=trivial;refine callsIn_of_wp func148 rfl trivial ?_ rfl;simp only [ntmps148,List.size_toArray,List.length_cons,List.length_nil,Nat.reduceAdd,Nat.reduceSub,Array.replicate_succ,Array.replicate_zero,List.push_toArray,List.append_toArray,List.nil_append,List.cons_append]
 gi_wp2_with (gi_at_call 159;refine (ma (n-1) (by omega) g lb eg S Sp N hN _ nH).mono ?_;rintro e w' ⟨v,ss,rfl,hS,dN,vr,hb⟩)
 go_ret;exact ⟨v,ss,rfl,hS,dN,vr,hb⟩
theorem EY {cur:Array Value} {e:TypeId} {ss:List Int} (hb:w.heap[g]?=some (.cells cur e (0,0))) (ht:cur.toList.take ss.length=ss.map dG):HU w g 0 ss.toArray:=by
 intro j hj;have US:j<ss.length:=by simpa using hj
 refine ⟨?_,by simp [World.frozen?,hb]⟩;have h1:(cur.toList.take ss.length)[j]?=(ss.map dG)[j]?:=by rw [ht]
 rw [List.getElem?_take_of_lt US] at h1;simp only [World.cell?,hb,Nat.zero_add];simp only [Option.isSome_none,Bool.false_eq_true,if_false];rw [<-Array.getElem?_toList,h1];simp [US,dG]
def Rf (B:Nat) (w:World) (v:Value) (ss:List Int):Prop:=(v=.slice none 0 0/\ss=[])\/∃ g cap,v=.slice (some ⟨g,0,none⟩) ss.length cap/\B<=g/\g<w.heap.size/\HU w g 0 ss.toArray
structure Rr {H:Type} (D0:DataW H) (ss:List Int):Prop where
 lt:ss.Pairwise (·<·)
 mem:∀ x,x∈ss↔has D0 (.int .u64 x)=true
 size:ss.length<=Maps.size D0
theorem AG {H:Type} {D0:DataW H} {ss:List Int} (h:iu D0 ss):Rr D0 (ss.mergeSort (fun x y=>decide (x<=y))):=by
 have hp:=List.mergeSort_perm ss (fun x y=>decide (x<=y));refine ⟨?_,fun x=>(hp.mem_iff).trans (h.2.1 x),by rw [hp.length_eq];exact h.2.2⟩;have h1:=List.pairwise_mergeSort (le:=fun x y:Int=>decide (x<=y)) (fun a b c h1 h2=>by simp at *;omega) (fun a b=>by simp;omega) ss;have h2:(ss.mergeSort (fun x y=>decide (x<=y))).Pairwise (·≠·):=hp.nodup_iff.2 h.1;exact (h1.and h2).imp (fun {a b} ⟨x,y⟩=>by simp at x;omega)
theorem nZ (n:Nat) (hn:4<=n) (g:Nat) (lb:Array Value) (eg:∀ args w,(callFunc g args).run prog w=.ok (.enter g args) w)
  (S Sp:List Int->Prop) (N:Nat) (hN:N<=1048576) (hS:∀ ss,S ss->ss.length<=1048576) (w:World) (nH:SeqStopsK Fence.wide (n-1-1-1) prog g lb (fun x:Int=>#[dG x]) KeepsWalks S Sp N w) :
  CallsIn Fence.wide n prog 128 #[.func (.func g) #[] lb] w fun e w'=>∃ (v:Value) (ss:List Int),e=.returned v/\S ss/\Rf w.heap.size w' v (ss.mergeSort (fun x y=>decide (x<=y)))/\Below w.heap.size w w':=by
 have h1:1<=n:=by omega
 have WU:Fence.wide.fn 148:=trivial;have WT:Fence.wide.fn 149:=trivial;refine callsIn_of_wp func128 rfl trivial ?_ rfl;simp only [ntmps128,List.size_toArray,List.length_cons,List.length_nil,Nat.reduceAdd,Nat.reduceSub,Array.replicate_succ,Array.replicate_zero,List.push_toArray,List.append_toArray,List.nil_append,List.cons_append]
 gi_wp2_with (gi_at_call 148;refine (qi (n-1) (by omega) g lb eg S Sp N hN _ nH).mono ?_;rintro e w' ⟨v,ss,rfl,Va,dN,vr,hb⟩)
 rcases dN.2 with ⟨rfl,_⟩ | ⟨gb,cap,cur,rfl,vx,PR,gQ,Je,Ys,Yr⟩;{
 have e0:ss=[]:=vr.1 rfl;subst e0
 gi_wp2_with (gi_at_call 149;refine (callsIn_wide.2 (uE 0 _)).mono ?_;rintro e w2 ⟨rfl,rfl⟩)
 go_ret;exact ⟨_,[],rfl,Va,.inl ⟨rfl,by simp⟩,hb⟩};{
 have aU:gb<w'.heap.size:=(Array.getElem?_eq_some_iff.1 PR).1;have hH:=EY PR (by simpa using Yr)
 gi_wp2_with (gi_at_call 149;refine (callsIn_wide.2 (sc gb 0 cap ss (hS ss Va) _ hH aU)).mono ?_;rintro e w2 ⟨rfl,py,dY⟩)
 go_ret;refine ⟨_,ss,rfl,Va,.inr ⟨gb,cap,by rw [List.length_mergeSort];rfl,by omega,Nat.lt_of_lt_of_le aU dY.size,py⟩,?_⟩;exact hb.grown dY hb.size (fun k e=>by cases e;omega)}
theorem gR {H:Type} (b nn:Nat) (D0:DataW H) {R:Value->Option (DataW H × List MemPlace)} (w:World) (aS:w.ownsMap prog 22 R b nn D0) (fH:Maps.size D0<=1048576) :
  Calls prog 80 #[.map (some b)] w fun e w'=>∃ (v:Value) (ss:List Int),e=.returned v/\Rr D0 ss/\Rf w.heap.size w' v ss/\Below w.heap.size w w':=by
 refine (callsIn_wide (n:=6)).1 ?_;have hfK:Fence.wide.fn 129:=trivial;have WT:Fence.wide.fn 128:=trivial;have x8:=aS.lt;have mw:(w.alloc (.cells #[.map (some b)] 111)).ownsMap prog 22 R b nn D0:=by obtain ⟨es,clock,hb,Ft,hs,hD⟩:=aS;exact ⟨es,clock,(Below.heap_alloc _ _ b x8).trans hb,Ft,hs,hD⟩
 have nH:=yN 2 (by omega) w.heap.size b nn D0 (w.alloc (.cells #[.map (some b)] 111)) (by simp) (by simp) mw;refine callsIn_of_wp func80 rfl trivial ?_ rfl;simp only [ntmps80,List.size_toArray,List.length_cons,List.length_nil,Nat.reduceAdd,Nat.reduceSub,Array.replicate_succ,Array.replicate_zero,List.push_toArray,List.append_toArray,List.nil_append,List.cons_append]
 gi_wp2_with (first
  | (gi_at_call 129;refine (EP _ _ _).mono ?_;rintro e w' ⟨rfl,rfl⟩)
  | (gi_at_call 128;refine (nZ 5 (by omega) _ _ (fun args w=>(by kernel_rfl:(callFunc 150 args).run prog w=.ok (.enter 150 args) w)) _ _ _ fH (fun ss h=>Nat.le_trans h.2.2 fH) _ nH).mono ?_;rintro e w' ⟨v,ss,rfl,hS,Cz,hb⟩))
 go_ret;refine ⟨v,_,rfl,AG hS,?_,((Below.refl _ w).alloc ay _).trans (hb.mono (by simp))⟩;rcases Cz with h | ⟨g,cap,h1,h2,h3,h4⟩;{exact .inl h};{exact .inr ⟨g,cap,h1,by simp at h2;omega,h3,h4⟩}
theorem lK {H:Type} (b nn:Nat) (D0:DataW H) {R:Value->Option (DataW H × List MemPlace)} (w:World) (aS:w.ownsMap prog 22 R b nn D0) (fH:Maps.size D0<=1048576) :
  Calls prog 133 #[.map (some b)] w fun e w'=>∃ (v:Value) (ss:List Int),e=.returned v/\Rr D0 ss/\Rf w.heap.size w' v ss/\Below w.heap.size w w':=by
 refine (callsIn_wide (n:=6)).1 ?_;have hfK:Fence.wide.fn 155:=trivial;have WT:Fence.wide.fn 128:=trivial;have x8:=aS.lt;have mw:(w.alloc (.cells #[.map (some b)] 108)).ownsMap prog 22 R b nn D0:=by obtain ⟨es,clock,hb,Ft,hs,hD⟩:=aS;exact ⟨es,clock,(Below.heap_alloc _ _ b x8).trans hb,Ft,hs,hD⟩
 have nH:=Oz 2 (by omega) w.heap.size b nn D0 (w.alloc (.cells #[.map (some b)] 108)) (by simp) (by simp) mw;refine callsIn_of_wp func133 rfl trivial ?_ rfl;simp only [ntmps133,List.size_toArray,List.length_cons,List.length_nil,Nat.reduceAdd,Nat.reduceSub,Array.replicate_succ,Array.replicate_zero,List.push_toArray,List.append_toArray,List.nil_append,List.cons_append]
 gi_wp2_with (first
  | (gi_at_call 155;refine (Ul _ _ _).mono ?_;rintro e w' ⟨rfl,rfl⟩)
  | (gi_at_call 128;refine (nZ 5 (by omega) _ _ (fun args w=>(by kernel_rfl:(callFunc 165 args).run prog w=.ok (.enter 165 args) w)) _ _ _ fH (fun ss h=>Nat.le_trans h.2.2 fH) _ nH).mono ?_;rintro e w' ⟨v,ss,rfl,hS,Cz,hb⟩))
 go_ret;refine ⟨v,_,rfl,AG hS,?_,((Below.refl _ w).alloc ay _).trans (hb.mono (by simp))⟩;rcases Cz with h | ⟨g,cap,h1,h2,h3,h4⟩;{exact .inl h};{exact .inr ⟨g,cap,h1,by simp at h2;omega,h3,h4⟩}
end Q
end Go.Proofs.YtmfjiolopcbcmaaGreatDoor
