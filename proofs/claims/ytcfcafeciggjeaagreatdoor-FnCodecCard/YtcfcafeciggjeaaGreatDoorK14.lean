import Derived.Test.YtcfcafeciggjeaaGreatDoorK13
import Derived.Lib.LastIndexByte
import Derived.Laws.IdiomRangeMap
namespace Go.Proofs.YtcfcafeciggjeaaGreatDoor
set_option maxHeartbeats 3200000
set_option linter.all false
set_option maxRecDepth 100000
open Go.ChangeShapes Go.WideShapes Go.ChangeAt Go.RowKit Go.Maps Go.Proofs.Tryz
variable {D:DataW Unit} {E:Prop} {K:Act->World->Prop} {P:Program} {SB:List Nat} {a:Act} {b bn bs g i k:Nat} {cs:Array Value} {e x:Int} {ns:List aD} {o:Oper} {ops:Array Oper} {ss:List aY} {t:TypeId}
theorem gR:Keyed prog 23:=int_keyed underlying23
theorem kM:Keyed prog 9:=string_keyed underlying9
theorem jO {i:Int} (h:0<=i/\i<18446744073709551616):(Lit.U i).wf=true:=by
 simp only [Lit.wf,IntKind.min,IntKind.max,IntKind.signed,IntKind.bits,Bool.and_eq_true,decide_eq_true_eq];simp;omega
theorem az {w w':World} (h:Bw w w') (row:Option Nat):w.grownBy w' row:=⟨h.os,h.tape,h.output,h.size,fun i hi _=>h.block i hi⟩
theorem bR {B:Nat} {w0 w w':World} {row:Option Nat} (h:Below B w0 w) (hg:w.grownBy w' row) (hB:B<=w.heap.size) (hr:∀ j,row=some j->B<=j):Below B w0 w':=
 ⟨hg.os.trans h.os,hg.tape.trans h.tape,hg.output.trans h.output,Nat.le_trans h.size hg.size,fun k hk=>(hg.block k (Nat.lt_of_lt_of_le hk hB) (fun e=>by have:=hr k e.symm;omega)).trans (h.block k hk)⟩
theorem yX (p:Option Addr) (c n:Nat) (ids:List Int) (en:Hid (ids.length=n)) (w:World) (h:nH w (.S p n c) ids) (hn:n<=1048576) (hU:Hid (∀ i∈ids,0<=i/\i<18446744073709551616)) :
  Calls prog 92 #[.S p n c] w fun r w'=>∃ D,r=.returned (.map (some w.heap.size))/\w'.ownsMap prog 23 unitElem w.heap.size n D/\db D ids/\Bw w w'/\w.heap.size<w'.heap.size:=by
 have HR:=ae fun (w':World) (hb:Bw w w')=>h.below hb;have Be:=@run_makeMap prog;go_enter func92,ntmps92;go_wp2
 go_loopw [9] (fun iv wr=>∃ (k:Nat) (D:DataW Unit),k<=n/\iv=.I k/\wr.ownsMap prog 23 unitElem w.heap.size k D/\Hid (db D (ids.take k))/\Bw w wr) (fun iv _=>n-(intOf iv).toNat)
 case atStart=>exact ⟨0,_,Nat.zero_le _,rfl,World.ownsMap_made _ _ _ _,db.nil,aJ.alloc aA _⟩
 case round =>(
 obtain ⟨k,D,hk,rfl,br,nG,aR⟩:=hrel;by_cases bj:k<n;{
 have da:=aT k n;have fL:k<ids.length:=by rw [aa en];exact bj
 obtain ⟨b,o,rfl,bG⟩:∃ b o,p=some ⟨b,o,none⟩/\wr.cell? ⟨b,o+k,none⟩=some (.U (ids.getD k 0)):=by obtain ⟨p',c',ev,hd⟩:=aa HR _ aR;simp only [Value.slice.injEq] at ev;obtain ⟨rfl,-,-⟩:=ev;rcases hd with h0 | ⟨b,o,h1,h2⟩;{rw [h0] at fL;simp at fL};{exact ⟨b,o,h1,h2 k fL⟩}
 have e1:ids.take (k+1)=ids.take k++[ids.getD k 0]:=by rw [List.take_add_one,List.getD_eq_getElem?_getD,aK fL];rfl
 have hy:=aa hU (ids.getD k 0) (by rw [List.getD_eq_getElem?_getD,aK fL];exact List.getElem_mem fL);have Hi:=nG.put br.isMap (ids.getD k 0) (.agg []);rw [<-e1] at Hi;have vQ:=ae Hi;obtain ⟨y,ey⟩:=aH (ids.getD k 0);rw [ey] at bG hy vQ;have kp:keyOf prog 23 (.U y)=some (.U y):=keyOf_int_mk underlying23 (jO hy);go_wp2_with (first
  | (at_mapUpdate;refine wpList_mapUpdate_own _ rfl _ _ _ 84 rfl 23 _ gR underlying84 unitElem w.heap.size k _ rfl br jC _ _ _ rfl rfl kp (.agg []) [] unitElem_mk ?_;intro w1 nj Wa)
  | go_in)
 go_roundw
 case rel=>exact ⟨k+1,_,ab,by go_num,nj,vQ,bR aR Wa (Nat.le_of_lt (Nat.lt_of_le_of_lt aA br.lt)) (fun j hj=>by cases hj;exact Nat.le_refl _)⟩
 exact dC};{
 have da:=dy k n;have:k=n:=by omega
 subst this;have HS:=aa nG;rw [List.take_of_length_le (by rw [aa en];exact Nat.le_refl _)] at HS;go_wp2;go_ret;exact ⟨rfl,D,br,HS,aR,br.lt⟩})
theorem uN (bd bs nd ns:Nat) (Dd Ds:DataW Unit) (sd ss:List Int) (w:World) (hd:w.ownsMap prog 23 unitElem bd nd Dd) (hs:w.ownsMap prog 23 unitElem bs ns Ds) (hsd:Hid (db Dd sd)) (Z7:Hid (db Ds ss)) (gd:bd≠bs) (hn:nd<=4611686018427387904) (hm:ns<=1048576) :
  Calls prog 123 #[.map (some bd),.map (some bs)] w fun r w'=>∃ D s,r=.returned (.tuple #[])/\w'.ownsMap prog 23 unitElem bd (nd+ns) D/\db D s/\(∀ i,i∈s↔i∈sd\/i∈ss)/\w.grownBy w' (some bd):=by
 have HS:=hs;go_enter func123,ntmps123;go_wp2_with (first
  | (at_range;refine wpList_range_own _ rfl _ 84 rfl 23 _ gR underlying84 _ bs ns _ rfl hs ?_;intro w0 pI uX Hj)
  | go_in)
 go_frame
 go_loopw [4] (fun _ wr=>∃ (left:Lit->Bool) (mV k:Nat) (D:DataW Unit) (s:List Int),wr.ranges prog 23 unitElem bs w.heap.size ns Ds left mV/\k+mV<=nd+ns/\wr.ownsMap prog 23 unitElem bd k D/\Hid (db D s)/\Hid (∀ i,i∈s↔i∈sd\/(i∈ss/\left (.U i)=false))/\w.grownBy wr (some bd)) (fun _ wr=>wr.rangeLeft bs w.heap.size)
 case atStart =>(
 refine ⟨_,_,nd,Dd,sd,pI,?_,hd.kept uX aU,hsd,?_,uX.but _⟩;{have:=hs.size_le;omega};{intro i;constructor;{exact fun h=>.inl h};{rintro (h | ⟨h1,h2⟩);{exact h};{rw [(aa Z7 (.U i)).2 ⟨i,h1,rfl⟩] at h2;cases h2}}})
 case round =>(
 obtain ⟨left,mV,k,D,s,nM,hkc,br,nG,fK,qM⟩:=hrel;go_wp2_with (first
  | (at_next;refine uO _ rfl _ rfl 23 gR underlying23 bs w.heap.size ns _ ss Z7 _ _ rfl nM ?_ ?_)
  | go_in)
 {
 intro _ tJ;go_wp2
 go_end0
 refine ⟨D,s,rfl,br.mono ab,nG,fun i=>?_,qM⟩;rw [aa fK i,tJ];simp};{
 intro x w1 vh ZQ hx hlx uT bj fO gx Bk;have aM9:=qM.andThen fO (fun j hj=>by cases hj;exact Or.inl aA);have hr:=nM.lt;have nj:=br.kept fO (fun e=>by cases e;exact absurd hd.lt ab);have kp:keyOf prog 23 (.U x)=some (.U x):=keyOf_int_mk underlying23 ZQ;have Hi:=ae (nG.put br.isMap x (.agg []));have ab7:Hid (∀ i,i∈s++[x]↔i∈sd\/(i∈ss/\(fun z=>left z&&!z.sameKey (.U x)) (.U i)=false)):=by
  intro i;rw [List.mem_append,aa fK i];simp only [List.mem_singleton];have hk:((Lit.U i).sameKey (.U x)=true)↔i=x:=by rw [WideAt.sameKey_iff (by trivial)];simp
  by_cases e:i=x;{subst e;rw [hk.2 rfl];simp [hx]};{rw [show (Lit.U i).sameKey (.U x)=false by (rw [Bool.eq_false_iff];exact fun h=>e (hk.1 h))];simp [e]}
 go_wp2_with (first
  | (at_mapUpdate;refine wpList_mapUpdate_own _ rfl _ _ _ 84 rfl 23 _ gR underlying84 unitElem bd k _ rfl (nj.alloc _) jC _ _ _ rfl rfl kp (.agg []) [] unitElem_mk ?_;intro w2 xr Mw)
  | go_in)
 have xm:=(uT.alloc _).kept Mw (by simp;exact fun e=>gd e.symm) (by simp;intro e;exact absurd hd.lt ab);go_roundw
 case rel=>exact ⟨_,vh,xm,k+1,ab,_,xr,_,Hi,ab7,(aM9.andThen (World.grownBy_alloc _ _ none) (fun j hj=>by cases hj)).andThen Mw (fun j hj=>by cases hj;exact Or.inr rfl)⟩
 case measure=>rw [xm.left_eq,nM.left_eq];omega})
theorem fM (l:List Int):(aC l).data.toList=l.map (fun n=>UInt8.ofNat n.toNat):=by rw [aC,Am];rfl
theorem di (l:List Int):(aC l).size=l.length:=by
 show (aC l).data.size=_;rw [<-Array.length_toList,fM,List.length_map]
theorem ab5 {l:List Int} (hB:bM l) (j:Nat) (hj:j<(aC l).size):(((aC l)[j]'hj).toNat:Int)=l.getD j 0:=by
 have hl:j<l.length:=by rw [<-di];exact hj
 have e1:(aC l)[j]'hj=(aC l).data.toList[j]'(by rw [fM,List.length_map];exact hl):=by rw [Array.getElem_toList];rfl
 rw [e1];simp only [fM,List.getElem_map];rw [List.getD_eq_getElem?_getD,aK hl,Option.getD_some];have:=hB l[j] (List.getElem_mem hl);rw [UInt8.toNat_ofNat'];omega
theorem AW (l:List Int) (n:Nat) (s:ByteArray) (es:Hid (s=aC l)) (en:s.size=n) (hB:Hid (bM l)) (hn:n<=2097152) (w:World) :
  Calls prog 177 #[.string s,.int .u8 47] w fun e w'=>((∃ k:Nat,e=.returned (.I k)/\k<n/\Cb l n=k)\/(e=.returned (.I (-1))/\Cb l n=0/\∀ j,j<n->l.getD j 0≠47))/\w'=w:=by
 have Wb:Hid (∀ (j:Nat) (hj:j<s.size),((s[j]'hj).toNat:Int)=l.getD j 0):=by have e:=aa es;subst e;exact fun j hj=>ab5 hB j hj
 subst en;go_enter func177,ntmps177;go_wp2
 go_loop [5] (fun vi=>∃ k:Nat,k<=s.size/\vi=.I ((k:Int)-1)/\Hid (Cb l s.size=Cb l k)/\Hid (∀ j,k<=j->j<s.size->l.getD j 0≠47)) (fun vi=>((RowKit.intOf vi)+1).toNat)
 case atStart=>exact ⟨s.size,Nat.le_refl _,by first | rfl | go_num | (congr 1;omega),cw,fun j h1 h2=>ab⟩
 case round =>(
 obtain ⟨k,hk,rfl,hh,hq⟩:=hrel;go_wp2;{
 have hc:(((s[k-1]).toNat:Int)==47)=true:=by assumption
 have k1:1<=k:=ab;have e1:Cb l k=k-1:=by have:=te l (k-1);rw [show k-1+1=k by omega] at this;rw [this,if_pos];rw [<-aa Wb (k-1) ab];simpa using hc
 have e2:((k-1:Nat):Int)=(k:Int)-1:=ab;go_ret;refine ⟨.inl ⟨k-1,by rw [e2];rfl,ab,by rw [aa hh,e1]⟩,rfl⟩};{
 have hc:(((s[k-1]).toNat:Int)==47)=false:=by assumption
 have k1:1<=k:=ab;have e1:Cb l k=Cb l (k-1):=by have:=te l (k-1);rw [show k-1+1=k by omega] at this;rw [this,if_neg];rw [<-aa Wb (k-1) ab];simpa using hc
 have e3:l.getD (k-1) 0≠47:=by rw [<-aa Wb (k-1) ab];simpa using hc
 refine ⟨⟨k-1,ab,by congr 1;omega,hh.trans e1,fun j h1 h2=>?_⟩,?_⟩;{by_cases ej:j=k-1;{rw [ej];exact e3};{exact hq j ab h2}};simp [RowKit.intOf];omega};{have k0:k=0:=ab;subst k0;go_ret;exact ⟨.inr ⟨rfl,hh,fun j hj=>aa hq j (Nat.zero_le _) hj⟩,rfl⟩})
theorem uq (l:List Int) (n:Nat) (s:ByteArray) (es:Hid (s=aC l)) (en:s.size=n) (hB:Hid (bM l)) (hn:n<=2097152) (w:World) :
  Calls prog 162 #[.string s,.int .u8 47] w fun e w'=>((∃ k:Nat,e=.returned (.I k)/\k<n/\Cb l n=k)\/(e=.returned (.I (-1))/\Cb l n=0/\∀ j,j<n->l.getD j 0≠47))/\w'=w:=by
 go_enter func162,ntmps162;go_wp2_with fail;refine (AW l n s es en hB hn w).mono ?_;rintro e w' ⟨hr,rfl⟩;rcases hr with ⟨k,rfl,hk,hl⟩ | ⟨rfl,hl⟩;{have HL:=ae hl;go_wp2;go_ret;exact ⟨.inl ⟨k,rfl,hk,HL⟩,rfl⟩};{have HL:=ae hl;go_wp2;go_ret;exact ⟨.inr ⟨rfl,HL⟩,rfl⟩}
theorem mJ (l:List Int) (n:Nat) (en:Hid (l.length=n)) (hB:Hid (bM l)) (hn:n<=1048576) (w:World) :
  Calls prog 122 #[.string (aC l)] w fun e w'=>e=.returned (.string (aC (dm l)))/\w'=w:=by
 obtain ⟨s,es⟩:=ax (aC l);have hs:s.size=n:=by rw [es,di];exact aa en
 rw [<-es];have ES:=ae es;clear es;go_enter func122,ntmps122;go_wp2_with fail;refine (uq l n s ES hs hB ab w).mono ?_;rintro e w' ⟨hr,rfl⟩;rcases hr with ⟨k,rfl,hk,hl⟩ | ⟨rfl,hl,-⟩;{
 by_cases k0:k=0;{
 subst k0;have e1:dm l=[47]:=by rw [dm,aa en,hl,if_pos rfl]
 have E1:=ae e1;clear hl e1;go_wp2;go_ret;exact ⟨by rw [aa E1];rfl,rfl⟩};{
 have e1:dm l=l.take k:=by rw [dm,aa en,hl,if_neg k0]
 have E1:=ae e1;clear e1;have g1:¬ (k:Int)<1:=ab;have g2:=vj k n;have g3:k<=s.size:=ab;have ex:Hid (s.extract 0 k=aC (l.take k)):=by show _=_;rw [aa ES];apply ByteArray.ext;apply Array.toList_inj.1;rw [fM,List.map_take,<-fM];simp [ByteArray.data_extract]
 clear hl;go_wp2;go_ret;exact ⟨by rw [aa E1,<-aa ex];rfl,rfl⟩}};{
 have e1:dm l=[47]:=by rw [dm,aa en,hl,if_pos rfl]
 have E1:=ae e1;clear hl e1;go_wp2;go_ret;exact ⟨by rw [aa E1];rfl,rfl⟩}
structure pO (w0 w:World) (bs:Nat) (ss:List aY) (SB:List Nat):Prop where
 len:SB.length=ss.length
 own:∃ D,w.ownsMap prog 23 aZ bs ss.length D/\MapTo D (List.zipWith (fun (s:aY) g=>(Lit.U s.1,g)) ss SB)
 aI:∀ (i:Nat) (s:aY) (g:Nat),ss[i]?=some s->SB[i]?=some g->w0.heap.size<=g/\∃ u,w.heap[g]?=some (.cells #[.U s.1,.I s.2.1,u] 35)/\jJ w0 u s.2.2
 me:SB.Nodup
structure nI (w0 w:World) (bn:Nat) (ns:List aD) (NB HB UB:List Nat):Prop where
 len:NB.length=ns.length
 Fp:HB.length=ns.length
 Fo:UB.length=ns.length
 own:∃ D,w.ownsMap prog 9 aZ bn ns.length D/\MapTo D (List.zipWith (fun (nd:aD) g=>(bN nd.path,g)) ns NB)
 aI:∀ (i:Nat) (nd:aD) (g h u:Nat),ns[i]?=some nd->NB[i]?=some g->HB[i]?=some h->UB[i]?=some u->w0.heap.size<=g/\w0.heap.size<=h/\w0.heap.size<=u ∧
  (∃ V,w.heap[g]?=some (.cells #[V,.U nd.owner,.I nd.mode,.map (some h),.U nd.aB,.U nd.gen,.map (some u)] 137)/\Rd w0 V nd.value) ∧
  (∃ D,w.ownsMap prog 23 unitElem h nd.holders.length D/\db D nd.holders)/\(∃ D,w.ownsMap prog 23 unitElem u nd.watchers.length D/\db D nd.watchers)
 me:NB.Nodup
 BF:(bn::(HB++UB)).Nodup
theorem jv {k:TypeId} {R:Value->Option (DataW Unit × List MemPlace)} {w:World} {b n g:Nat} (h:w.ownsMap P k R b n D) (hg:w.heap[g]?=some (.cells cs t)):g≠b:=by
 rintro rfl;obtain ⟨es,cl,hb,_⟩:=h;rw [hb] at hg;cases hg
theorem aG {w:World} {o:Obj} (h:w.heap[g]?=some o):g<w.heap.size:=(Array.getElem?_eq_some_iff.1 h).1
theorem pO.kept {w0 w w':World} {row:Option Nat} (h:pO w0 w bs ss SB) (hg:w.grownBy w' row) (h1:some bs≠row) (h2:∀ g∈SB,some g≠row):pO w0 w' bs ss SB:=by
 refine ⟨h.len,?_,fun i s g hi yD=>?_,h.me⟩;{obtain ⟨D,hD,hM⟩:=h.own;exact ⟨D,hD.kept hg h1,hM⟩};{obtain ⟨a1,u,a2,a3⟩:=h.aI i s g hi yD;exact ⟨a1,u,(hg.block g (aG a2) (h2 g (aF yD))).trans a2,a3⟩}
theorem nI.kept {w0 w w':World} {NB HB UB:List Nat} {row:Option Nat} (h:nI w0 w bn ns NB HB UB) (hg:w.grownBy w' row) (h1:some bn≠row) (h2:∀ g∈NB,some g≠row) (h3:∀ g∈HB++UB,some g≠row):nI w0 w' bn ns NB HB UB:=by
 refine ⟨h.len,h.Fp,h.Fo,?_,fun i nd g hh u hi yD Rf QX=>?_,h.me,h.BF⟩;{obtain ⟨D,hD,hM⟩:=h.own;exact ⟨D,hD.kept hg h1,hM⟩};{obtain ⟨a1,a2,a3,⟨V,a4,a5⟩,⟨D1,a6,a7⟩,⟨D2,a8,a9⟩⟩:=h.aI i nd g hh u hi yD Rf QX;exact ⟨a1,a2,a3,⟨V,(hg.block g (aG a4) (h2 g (aF yD))).trans a4,a5⟩,⟨D1,a6.kept hg (h3 _ (List.mem_append.2 (.inl (aF Rf)))),a7⟩,⟨D2,a8.kept hg (h3 _ (List.mem_append.2 (.inr (aF QX)))),a9⟩⟩}
theorem qj {α:Type} {l:List α} {x y:α} (h:(l++[x])[i]?=some y):l[i]?=some y\/(i=l.length/\x=y):=by
 by_cases hi:i<l.length;{rw [List.getElem?_append_left hi] at h;exact .inl h};{
 rw [List.getElem?_append_right ab] at h
 right
 obtain ⟨bj,e⟩:=aN.1 h;simp at bj;refine ⟨ab,?_⟩;simpa [show i-l.length=0 by omega] using h}
theorem Cl {α β γ:Type} (f:α->β->γ) {l:List α} {m:List β} (h:m.length=l.length) (x:α) (y:β):List.zipWith f (l++[x]) (m++[y])=List.zipWith f l m++[f x y]:=by
 rw [List.zipWith_append ab]
 rfl
theorem gM {α β γ:Type} {f:α->β->γ} {l:List α} {m:List β} {z:γ} (h:z∈List.zipWith f l m):∃ (i:Nat) (x:α) (y:β),l[i]?=some x/\m[i]?=some y/\z=f x y:=by
 obtain ⟨i,hi,rfl⟩:=List.getElem_of_mem h;rw [List.length_zipWith] at hi;refine ⟨i,l[i]'(by omega),m[i]'(by omega),aK _,aK _,?_⟩;simp
theorem pO.empty {w0 w:World} (h:w.ownsMap prog 23 aZ bs 0 (.map [])):pO w0 w bs [] []:=
 ⟨rfl,⟨_,h,MapTo.nil⟩,fun i s g hi=>by simp at hi,List.nodup_nil⟩
theorem nI.empty {w0 w:World} (h:w.ownsMap prog 9 aZ bn 0 (.map [])):nI w0 w bn [] [] [] []:=
 ⟨rfl,rfl,rfl,⟨_,h,MapTo.nil⟩,fun i s g _ _ hi=>by simp at hi,List.nodup_nil,aU⟩
theorem pO.lt {w0 w:World} (h:pO w0 w bs ss SB):∀ g∈SB,g<w.heap.size:=by
 intro g hg;obtain ⟨i,hi⟩:=List.getElem?_of_mem hg;have hl:=(aN.1 hi).1;obtain ⟨s,hs⟩:∃ s,ss[i]?=some s:=⟨_,aK (by rw [<-h.len];exact hl)⟩;obtain ⟨_,u,a2,_⟩:=h.aI i s g hs hi;exact aG a2
theorem nI.at {w0 w:World} {NB HB UB:List Nat} (h:nI w0 w bn ns NB HB UB) {nd:aD} (hi:ns[i]?=some nd):∃ g hh u,NB[i]?=some g/\HB[i]?=some hh/\UB[i]?=some u:=by
 have hl:=(aN.1 hi).1;exact ⟨_,_,_,aK (by rw [h.len];exact hl),aK (by rw [h.Fp];exact hl),aK (by rw [h.Fo];exact hl)⟩
theorem nI.lt {w0 w:World} {NB HB UB:List Nat} (h:nI w0 w bn ns NB HB UB):(∀ g∈NB,g<w.heap.size)/\∀ g∈HB++UB,g<w.heap.size:=by
 have key:∀ i,i<ns.length->∃ g hh u,NB[i]?=some g/\HB[i]?=some hh/\UB[i]?=some u/\g<w.heap.size/\hh<w.heap.size/\u<w.heap.size:=fun i hi=>by obtain ⟨nd,aV⟩:∃ s,ns[i]?=some s:=⟨_,aK hi⟩;obtain ⟨g,hh,u,e1,e2,e3⟩:=h.at aV;obtain ⟨_,_,_,⟨V,a4,_⟩,⟨D1,a6,_⟩,⟨D2,a8,_⟩⟩:=h.aI i nd g hh u aV e1 e2 e3;exact ⟨g,hh,u,e1,e2,e3,aG a4,a6.lt,a8.lt⟩
 refine ⟨fun g hg=>?_,fun g hg=>?_⟩;{obtain ⟨i,hi⟩:=List.getElem?_of_mem hg;have hl:=(aN.1 hi).1;obtain ⟨g',_,_,e1,_,_,a,_,_⟩:=key i (by rw [<-h.len];exact hl);rw [hi] at e1;cases e1;exact a};{rcases List.mem_append.1 hg with hg | hg;{obtain ⟨i,hi⟩:=List.getElem?_of_mem hg;have hl:=(aN.1 hi).1;obtain ⟨_,g',_,_,e1,_,_,a,_⟩:=key i (by rw [<-h.Fp];exact hl);rw [hi] at e1;cases e1;exact a};{obtain ⟨i,hi⟩:=List.getElem?_of_mem hg;have hl:=(aN.1 hi).1;obtain ⟨_,_,g',_,_,e1,_,_,a⟩:=key i (by rw [<-h.Fo];exact hl);rw [hi] at e1;cases e1;exact a}}
theorem wG {l:List Nat} {x:Nat} (h:l.Nodup) (hx:∀ y∈l,y≠x):(l++[x]).Nodup:=by
 rw [List.nodup_append];exact ⟨h,aU,fun a ha b hb=>by simp at hb;subst hb;exact hx a ha⟩
theorem pO.step {w0 w w1 w2:World} (h:pO w0 w bs ss SB) (s:aY) (g:Nat) (hg:w.grownBy w1 none) (xw:w.heap.size<=g) (hw:w0.heap.size<=w.heap.size) (u:Value) (hu:jJ w0 u s.2.2) (hb:w1.heap[g]?=some (.cells #[.U s.1,.I s.2.1,u] 35))
  (hid:∀ z∈ss,z.1≠s.1) (hM:MapTo D (List.zipWith (fun (s:aY) g=>(Lit.U s.1,g)) ss SB)) (hD:IsMap D)
  (br:w2.ownsMap prog 23 aZ bs (ss.length+1) (D.put (.U s.1) (.lit (.I g)))) (fU:w1.grownBy w2 (some bs)):pO w0 w2 bs (ss++[s]) (SB++[g]):=by
 have nO:bs<w.heap.size:=by obtain ⟨D,hD,_⟩:=h.own;exact hD.lt
 refine ⟨by simp [h.len],⟨_,by rw [List.length_append];exact br,?_⟩,fun i z g' hi yD=>?_,wG h.me (fun y hy=>by have:=h.lt y hy;omega)⟩;{rw [Cl _ h.len];refine hM.put hD (by trivial) (fun p hp=>?_) g;obtain ⟨i,x,y,hx,hy,rfl⟩:=gM hp;intro e;simp only [Lit.int.injEq,true_and] at e;exact hid x (aF hx) e};{rcases qj hi with O0 | ⟨e1,rfl⟩;{have hl:=(aN.1 O0).1;rw [List.getElem?_append_left (by rw [h.len];exact hl)] at yD;obtain ⟨a1,v,a2,a3⟩:=h.aI i z g' O0 yD;refine ⟨a1,v,?_,a3⟩;have b1:=(hg.block g' (aG a2) aU).trans a2;refine (fU.block g' (aG b1) ?_).trans b1;obtain ⟨D',hD',_⟩:=h.own;have:=jv hD' a2;simpa using this};{rw [e1,<-h.len,List.getElem?_append_right aA] at yD;simp at yD;subst yD;refine ⟨ab,u,?_,hu⟩;exact (fU.block _ (aG hb) dx).trans hb}}
structure kc (w0 w:World) (b bs bn:Nat) (e g x t:Int) (ss:List aY) (ns:List aD) (SB NB HB UB:List Nat):Prop where
 hd:w.heap[b]?=some (.cells #[.U e,.U g,.U x,.I t,.map (some bs),.map (some bn)] 132)
 ses:pO w0 w bs ss SB
 me:nI w0 w bn ns NB HB UB
 lo:w0.heap.size<=b/\w0.heap.size<=bs/\w0.heap.size<=bn
 BF:(bs::bn::(HB++UB)).Nodup
theorem kc.below {w0 w w':World} {g t:Int} {SB NB HB UB:List Nat} (h:kc w0 w b bs bn e g x t ss ns SB NB HB UB) (hb:Bw w w'):kc w0 w' b bs bn e g x t ss ns SB NB HB UB:=
 ⟨(hb.block b (aG h.hd)).trans h.hd,h.ses.kept (az hb none) aU aU,h.me.kept (az hb none) aU aU aU,h.lo,h.BF⟩
theorem ay {w:World} (h:w.heap[g]?=some (.cells cs t)) (i:Nat):w.cell? ⟨g,i,none⟩=cs[i]?:=by
 unfold World.cell?;rw [h]
 rfl
theorem nI.step {w0 w w1 w2:World} {NB HB UB:List Nat} (h:nI w0 w bn ns NB HB UB) (nd:aD) (g hb ub:Nat) (hg:w.grownBy w1 none) (xw:w.heap.size<=g) (J4:w.heap.size<=hb) (JX:w.heap.size<=ub) (gd:hb≠ub) (hw:w0.heap.size<=w.heap.size) (V:Value) (hV:Rd w0 V nd.value)
  (hbk:w1.heap[g]?=some (.cells #[V,.U nd.owner,.I nd.mode,.map (some hb),.U nd.aB,.U nd.gen,.map (some ub)] 137))
  {D1 D2:DataW Unit} (hH:w1.ownsMap prog 23 unitElem hb nd.holders.length D1) (hHs:db D1 nd.holders) (hU:w1.ownsMap prog 23 unitElem ub nd.watchers.length D2) (hUs:db D2 nd.watchers)
  (hid:∀ z∈ns,bN z.path≠bN nd.path) (hM:MapTo D (List.zipWith (fun (nd:aD) g=>(bN nd.path,g)) ns NB)) (hD:IsMap D)
  (br:w2.ownsMap prog 9 aZ bn (ns.length+1) (D.put (bN nd.path) (.lit (.I g)))) (fU:w1.grownBy w2 (some bn)):nI w0 w2 bn (ns++[nd]) (NB++[g]) (HB++[hb]) (UB++[ub]):=by
 have rh:bn<w.heap.size:=by obtain ⟨D,hD,_⟩:=h.own;exact hD.lt
 have bj:=h.lt;refine ⟨by simp [h.len],by simp [h.Fp],by simp [h.Fo],⟨_,by rw [List.length_append];exact br,?_⟩,fun i z g' h' u' hi yD Rf QX=>?_,wG h.me (fun y hy=>by have:=bj.1 y hy;omega),?_⟩;{rw [Cl _ h.len];refine hM.put hD (by trivial) (fun p hp=>?_) g;obtain ⟨i,x,y,hx,hy,rfl⟩:=gM hp;exact fun e=>hid x (aF hx) e};{
 rcases qj hi with O0 | ⟨e1,rfl⟩;{
 have hl:=(aN.1 O0).1;rw [List.getElem?_append_left (by rw [h.len];exact hl)] at yD;rw [List.getElem?_append_left (by rw [h.Fp];exact hl)] at Rf;rw [List.getElem?_append_left (by rw [h.Fo];exact hl)] at QX;obtain ⟨a1,a2,a3,⟨V',a4,a5⟩,⟨E1,a6,a7⟩,⟨E2,a8,a9⟩⟩:=h.aI i z g' h' u' O0 yD Rf QX;have Wi:=h.BF;rw [List.nodup_cons] at Wi;have n1:some h'≠some bn:=by intro e;cases e;exact Wi.1 (List.mem_append.2 (.inl (aF Rf)))
 have n2:some u'≠some bn:=by intro e;cases e;exact Wi.1 (List.mem_append.2 (.inr (aF QX)))
 have b1:=(hg.block g' (aG a4) aU).trans a4;refine ⟨a1,a2,a3,⟨V',(fU.block g' (aG b1) ?_).trans b1,a5⟩,⟨E1,(a6.kept hg aU).kept fU n1,a7⟩,⟨E2,(a8.kept hg aU).kept fU n2,a9⟩⟩;obtain ⟨D',hD',_⟩:=h.own;have:=jv hD' a4;simpa using this};{rw [e1,<-h.len,List.getElem?_append_right aA] at yD;rw [e1,<-h.Fp,List.getElem?_append_right aA] at Rf;rw [e1,<-h.Fo,List.getElem?_append_right aA] at QX;simp at yD Rf QX;subst yD Rf QX;exact ⟨ab,ab,ab,⟨V,(fU.block _ (aG hbk) dx).trans hbk,hV⟩,⟨D1,hH.kept fU dx,hHs⟩,⟨D2,hU.kept fU dx,hUs⟩⟩}};{
 have hp:((HB++[hb])++(UB++[ub])).Perm ((HB++UB)++[hb,ub]):=by rw [List.append_assoc,List.append_assoc];exact List.Perm.append_left HB (show (hb::(UB++[ub])).Perm (UB++hb::[ub]) from List.perm_middle.symm)
 have hq:(bn::((HB++[hb])++(UB++[ub]))).Perm ((bn::(HB++UB))++[hb,ub]):=hp.cons bn;rw [hq.nodup_iff,List.nodup_append];refine ⟨h.BF,by simp [gd],fun a ha c hc=>?_⟩;have hal:a<w.heap.size:=by rcases List.mem_cons.1 ha with rfl | ha;{exact rh};{exact bj.2 a ha}
 simp at hc;rcases hc with rfl | rfl<;>omega}
theorem ta {w:World} {Q:Exit->Act->World->Prop} (jK:o.guard=none) (m x v:Operand) (t:TypeId) (hop:o.op=Op.mapUpdate t m x v)
  (k e:TypeId) (KK:Keyed P k) (ht:P.underlying t=some (.map k e)) (R:Value->Option (DataW Unit × List MemPlace)) (b n:Nat) (D:DataW Unit)
  (hm:a.eval m=.map (some b)) (br:w.ownsMap P k R b n D) (hn:n<maxLen) (key val:Value) (kl:Lit) (hx:a.eval x=key) (hv:a.eval v=val) (kp:keyOf P k key=some kl)
  (d:DataW Unit) (ps:List MemPlace) (Fc:R val=some (d,ps)) (hK:∀ w',w'.ownsMap P k R b (n+1) (D.put kl d)->w.grownBy w' (some b)->K (a.put o.dst undef) w') :
  if Region.wanted o (yielded ops a.tmps)=true then Oper.wp P o a w K Q else E:=by
 have hw:Region.wanted o (yielded ops a.tmps)=true:=by simp [Region.wanted,jK]
 rw [if_pos hw];obtain ⟨w',cK,r1,r2⟩:=br.update KK ht hn kp Fc;unfold Oper.wp;simp [execOp,hop,hm,hx,hv,cK,Result.andThen];exact hK w' r1 r2
theorem Kw {w:World} {Q:Exit->Act->World->Prop} (jK:o.guard=none) (t:TypeId) (x:Operand) (hop:o.op=Op.box t x) (v:Value) (hx:a.eval x=v) (r:Value) (w':World) (cK:(Instr.box t v).run P w=.ok r w')
  (hK:K (a.put o.dst r) w'):if Region.wanted o (yielded ops a.tmps)=true then Oper.wp P o a w K Q else E:=by
 have hw:Region.wanted o (yielded ops a.tmps)=true:=by simp [Region.wanted,jK]
 rw [if_pos hw];unfold Oper.wp;simp [execOp,hop,hx,cK,Result.andThen];exact hK
theorem Cz (w:World) (V:Value) (ow mo ep ge:Int) (h u:Nat):(Instr.box 137 (.agg #[V,.U ow,.I mo,.map (some h),.U ep,.U ge,.map (some u)])).run prog w=.ok (.pointer (some ⟨w.heap.size,0,none⟩)) (w.alloc (.cells #[V,.U ow,.I mo,.map (some h),.U ep,.U ge,.map (some u)] 137)):=by
 go_simp
theorem l9 {α:Type} {l:List α} {y:α} (h:l[k]?=some y):l.take (k+1)=l.take k++[y]:=by rw [List.take_add_one,h];rfl
theorem rS {α:Type} {l:List α} {z:α} (h:z∈l.take k):∃ i,i<k/\l[i]?=some z:=by
 obtain ⟨i,hi⟩:=List.getElem?_of_mem h;rw [List.getElem?_take] at hi;split at hi;{exact ⟨i,by assumption,hi⟩};{cases hi}
theorem bQ {w w':World} (h:w'.heap[b]?=w.heap[b]?) (o:Nat):w'.cell? ⟨b,o,none⟩=w.cell? ⟨b,o,none⟩:=by
 unfold World.cell?;rw [h]
theorem lX.heap {w w':World} {g t:Int} {S N:Value} (h:lX w b e g x t S N) (hb:w'.heap[b]?=w.heap[b]?):lX w' b e g x t S N:=
 ⟨(bQ hb _).trans h.1,(bQ hb _).trans h.2.1,(bQ hb _).trans h.2.2.1,(bQ hb _).trans h.2.2.2.1,(bQ hb _).trans h.2.2.2.2.1,(bQ hb _).trans h.2.2.2.2.2⟩
theorem ar {X w2:World} {row:Option Nat} (h:X.drew.grownBy w2 row):X.grownBy w2 row:=⟨h.os,h.tape,h.output,h.size,h.block⟩
theorem BO (e g x t:Int) (p q:Option Addr) (c n d m:Nat) (ss:List aY) (ns:List aD) (en:Hid (ss.length=n)) (em:Hid (ns.length=m)) (w:World) (h:ic w (.S p n c) ss) (hN:kJ w (.S q m d) ns) (hn:n<=1048576) (hm:m<=1048576)
  (hsu:Hid (∀ s∈ss,0<=s.1/\s.1<18446744073709551616)) (hsd:Hid (∀ (i j:Nat) (s s':aY),ss[i]?=some s->ss[j]?=some s'->i<j->s.1≠s'.1))
  (fI:Hid (∀ nd∈ns,bM nd.path/\nd.path.length<=1048576/\nd.value.length<=1048576/\nd.holders.length<=1048576/\nd.watchers.length<=1048576))
  (IY:Hid (∀ nd∈ns,(∀ i∈nd.holders,0<=i/\i<18446744073709551616)/\∀ i∈nd.watchers,0<=i/\i<18446744073709551616))
  (aV:Hid (∀ (i j:Nat) (z z':aD),ns[i]?=some z->ns[j]?=some z'->i<j->z.path≠z'.path)) :
  Calls prog 35 #[cY e g x t (.S p n c) (.S q m d)] w fun r w'=>∃ b bs bn SB NB HB UB,r=.returned (.pointer (some ⟨b,0,none⟩))/\kc w w' b bs bn e g x t ss ns SB NB HB UB/\Bw w w':=by
 have HR:=ae fun (w':World) (hb:Bw w w')=>ag (h.below hb) (hN.below hb);have HS0:=ae h;have HN0:=ae hN;clear h hN;have Be:=@run_makeMap prog;go_enter func35,ntmps35;go_wp2_with fail;obtain ⟨b,eb⟩:=ax (w.heap.size+1+1+1);obtain ⟨bn,Ui⟩:=ax (w.heap.size+1+1);obtain ⟨bs,Uh⟩:=ax (w.heap.size+1);rw [<-eb,<-Ui,<-Uh];obtain ⟨W,hW⟩:=ax ((((w.alloc (.cells #[.U e,.U g,.U x,.I t,.S p n c,.S q m d] 27)).alloc (.map #[] 0)).alloc (.map #[] 0)).alloc (.cells #[.U e,.U g,.U x,.I t,.map (some bs),.map (some bn)] 132));have bW:Bw w W:=by rw [hW];exact (((aJ.alloc aA _).alloc aU _).alloc dx _).alloc dx _
 have zW:W.heap.size=w.heap.size+4:=by rw [hW];simp
 have hdW:W.heap[b]?=some (.cells #[.U e,.U g,.U x,.I t,.map (some bs),.map (some bn)] 132):=by rw [hW,eb];have:=(MapKept.heap_alloc (((w.alloc (.cells #[.U e,.U g,.U x,.I t,.S p n c,.S q m d] 27)).alloc (.map #[] 0)).alloc (.map #[] 0)) (.cells #[.U e,.U g,.U x,.I t,.map (some bs),.map (some bn)] 132)).1;simpa using this
 have oS:W.ownsMap prog 23 aZ bs 0 (.map []):=by rw [hW,Uh];have:=((World.ownsMap_made (w.alloc (.cells #[.U e,.U g,.U x,.I t,.S p n c,.S q m d] 27)) prog 23 aZ).alloc (.map #[] 0)).alloc (.cells #[.U e,.U g,.U x,.I t,.map (some (w.heap.size+1)),.map (some bn)] 132);simpa using this
 have oN:W.ownsMap prog 9 aZ bn 0 (.map []):=by rw [hW,Ui];have:=(World.ownsMap_made ((w.alloc (.cells #[.U e,.U g,.U x,.I t,.S p n c,.S q m d] 27)).alloc (.map #[] 0)) prog 9 aZ).alloc (.cells #[.U e,.U g,.U x,.I t,.map (some bs),.map (some (w.heap.size+1+1))] 132);simpa using this
 have c6:lX W w.heap.size e g x t (.S p n c) (.S q m d):=by
  have c0:lX (w.alloc (.cells #[.U e,.U g,.U x,.I t,.S p n c,.S q m d] 27)) w.heap.size e g x t (.S p n c) (.S q m d):=by simp [lX]
  rw [hW];exact c0.below (((aJ.alloc aA _).alloc aU _).alloc aU _)
 rw [<-hW];have HEQ:=ae (ag eb (ag Ui (ag Uh zW)));have BW:=ae bW;have Pz:=ae c6;have Il:=ae (ag hdW (ag oS oN));clear hW eb Ui Uh zW bW hdW oS oN c6 Be
 go_loopw [23] (fun iv wr=>∃ (k:Nat) (SB:List Nat),k<=n/\iv=.I k/\Hid (pO w wr bs (ss.take k) SB/\wr.heap[b]?=some (.cells #[.U e,.U g,.U x,.I t,.map (some bs),.map (some bn)] 132)/\wr.ownsMap prog 9 aZ bn 0 (.map [])/\lX wr w.heap.size e g x t (.S p n c) (.S q m d))/\Bw w wr/\W.heap.size<=wr.heap.size) (fun iv _=>n-(intOf iv).toNat)
 case atStart=>exact ⟨0,[],Nat.zero_le _,rfl,⟨pO.empty Il.2.1,Il.1,Il.2.2,Pz⟩,BW,Nat.le_refl _⟩
 case round =>(
 obtain ⟨k,SB,hk,rfl,pK,aR,Fz⟩:=hrel;by_cases bj:k<n;{
 have da:=aT k n;have fL:k<ss.length:=by rw [aa en];exact bj
 obtain ⟨⟨I,D,Q⟩,hy⟩:∃ y,ss[k]?=some y:=⟨_,aK fL⟩;obtain ⟨b0,o,rfl,hcI,hcD,u,Yg,Tl⟩:∃ b o,p=some ⟨b,o,none⟩/\w.cell? ⟨b,o+k*3,none⟩=some (.U I)/\w.cell? ⟨b,o+k*3+1,none⟩=some (.I D)/\∃ u,w.cell? ⟨b,o+k*3+2,none⟩=some u/\jJ w u Q:=by obtain ⟨p',c',ev,hd⟩:=aa HS0;simp only [Value.slice.injEq] at ev;obtain ⟨rfl,-,-⟩:=ev;rcases hd with h0 | ⟨b,o,h1,h2⟩;{rw [h0] at fL;simp at fL};{exact ⟨b,o,h1,h2 k _ hy⟩}
 obtain ⟨pq,cq,rfl,-⟩:=id Tl;obtain ⟨mq,emq⟩:=aH Q.length;rw [emq] at Tl Yg;clear emq;replace hcI:=af hcI aR;replace hcD:=af hcD aR;replace Yg:=af Yg aR;have YH:=ae Tl;have HY:=ae hy;have hI:=aa hsu _ (aF hy);have kp:keyOf prog 23 (.U I)=some (.U I):=keyOf_int_mk underlying23 (jO hI);have yM:=ae kp;clear fL hy Tl hI kp;go_wp2_with fail;obtain ⟨X,hX⟩:=ax (wr.alloc (.cells #[.U I,.I D,.S pq mq cq] 35));have bX:=ju hX;have Yl:X.heap[wr.heap.size]?=some (.cells #[.U I,.I D,.S pq mq cq] 35):=by rw [hX];exact (MapKept.heap_alloc wr _).1
 have hcX:X.cell? ⟨wr.heap.size,0,none⟩=some (.U I):=by rw [hX];simp
 obtain ⟨i1,i2,i3,i4⟩:=aa pK;have kO:X.heap[b]?=some (.cells #[.U e,.U g,.U x,.I t,.map (some bs),.map (some bn)] 132):=(bX.block b (aG i2)).trans i2;have DO:X.cell? ⟨b,4,none⟩=some (.map (some bs)):=ay kO 4;rw [<-hX];have zX:X.heap.size=wr.heap.size+1:=by rw [hX];simp
 clear hX hcI hcD Yg;obtain ⟨D0,oD,mD⟩:=i1.own;have hlen:(ss.take k).length=k:=by rw [List.length_take,aa en];omega
 rw [hlen] at oD;have oX:X.ownsMap prog 23 aZ bs k D0:=oD.kept (az bX none) aU;have nO:bs<wr.heap.size:=oD.lt;have ad7:bs≠b:=fun e=>jv oD i2 e.symm;have KX:=ae (ag DO hcX);have OX:=ae oX;clear DO hcX oX;refine bO (fun w'=>w'.cell? ⟨b,4,none⟩=some (.map (some bs))/\w'.cell? ⟨wr.heap.size,0,none⟩=some (.U I)) (by exact KX) fun hS=>?_;refine gC 0 1 2 3 hS ?_;refine fe 4 5 hS ?_;refine bH 6 fun KK hK=>?_;refine ta bU _ _ _ 129 bU 23 _ gR underlying129 aZ bs k D0 bU (by exact OX.drew) jC (.U I) (.pointer (some ⟨wr.heap.size,0,none⟩)) (.U I) bU bU yM (.lit (.I wr.heap.size)) [] rfl ?_;intro w2 xr fU;have I8:X.grownBy w2 (some bs):=ar fU;refine cg hK (by exact ⟨(bQ (I8.block b (aG kO) (by simpa using ad7.symm)) _).trans KX.1,(bQ (I8.block wr.heap.size (aG Yl) dx) _).trans KX.2⟩) fun hS=>?_;clear hK KK;refine bu ?_;have dz:pO w w2 bs (ss.take (k+1)) (SB++[wr.heap.size]):=by rw [l9 (aa HY)];refine i1.step (I,D,Q) wr.heap.size (az bX none) aA aR.size (.S pq mq cq) (aa YH) Yl (fun z hz=>?_) mD oD.isMap (by rw [hlen];exact xr) I8;obtain ⟨i,hi,JU⟩:=rS hz;exact hsd i k z (I,D,Q) JU (aa HY) hi
 have J3:w2.ownsMap prog 9 aZ bn 0 (.map []):=(i3.kept (az bX none) aU).kept I8 (by have:=(aa HEQ);simp;omega)
 have cX:w2.heap[b]?=some (.cells #[.U e,.U g,.U x,.I t,.map (some bs),.map (some bn)] 132):=(I8.block b (aG kO) (by simpa using ad7.symm)).trans kO;have h62:lX w2 w.heap.size e g x t (.S (some ⟨b0,o,none⟩) n c) (.S q m d):=(i4.below bX).heap (I8.block w.heap.size (by have:=aR.size;omega) (by have:=aa HEQ;simp;omega));have jL:Bw w w2:=bR (ah aR bX) I8 (by have:=aR.size;omega) (fun j hj=>by cases hj;have:=aa HEQ;omega);have jW:W.heap.size<=w2.heap.size:=by have:=I8.size;omega
 have HIN:=ae (ag dz (ag cX (ag J3 h62)));clear dz cX J3 h62 hS xr fU I8 i1 i2 i3 i4 kO oD mD Yl bX;go_wp2;go_roundw
 case rel=>exact ⟨k+1,_,ab,by go_num,HIN,jL,jW⟩
 exact dC};{
 have da:=dy k n;have Ex:k=n:=ab;subst Ex;obtain ⟨i1,i2,i3,i4⟩:=aa pK;rw [List.take_of_length_le (by rw [aa en];exact Nat.le_refl _)] at i1;obtain ⟨j0,j1,j2,j3,j4,j5⟩:=id i4;have I1:=ae i1;have I2:=ae i2;have I3:=ae i3;have I4:=ae i4;clear i1 i2 i3 i4 pK;go_wp2_with fail;clear j0 j1 j2 j3 j4 j5;obtain ⟨Y,eY⟩:=ax wr;subst eY;have BY:=ae aR;have ZY:=ae Fz;clear aR Fz bj da hk
 go_loopw [37] (fun iv wr=>∃ (k:Nat) (NB HB UB:List Nat),k<=m/\iv=.I k/\Hid (nI w wr bn (ns.take k) NB HB UB/\pO w wr bs ss SB/\wr.heap[b]?=some (.cells #[.U e,.U g,.U x,.I t,.map (some bs),.map (some bn)] 132)/\∀ y∈HB++UB,y≠bs)/\Bw w wr/\W.heap.size<=wr.heap.size) (fun iv _=>m-(intOf iv).toNat)
 case atStart=>exact ⟨0,[],[],[],Nat.zero_le _,rfl,⟨nI.empty (aa I3),aa I1,aa I2,aU⟩,aa BY,aa ZY⟩
 case round =>(
 obtain ⟨j,NB,HB,UB,hk,rfl,pK,aR,Fz⟩:=hrel;by_cases bj:j<m;{
 have da:=aT j m;have fL:j<ns.length:=by rw [aa em];exact bj
 obtain ⟨nd,hy⟩:∃ y,ns[j]?=some y:=⟨_,aK fL⟩;obtain ⟨b0,o,rfl,hA⟩:=HN0.at ab;obtain ⟨P,V,H,U,FG⟩:=hA j nd hy;obtain ⟨vG,jL,Zu,Rz,Ad⟩:=aa fI _ (aF hy);obtain ⟨Yp,Yo⟩:=aa IY _ (aF hy);obtain ⟨pp,pc,pn,rfl,Bx⟩:=FG.r0.gD;obtain ⟨vq,vc,vn,rfl,Uk⟩:=FG.r1.gD;obtain ⟨hp,hc,hh,rfl,Gi⟩:=FG.r4.gD;obtain ⟨up,uc,un,rfl,Jk⟩:=FG.r7.gD;have Mb:pn<=1048576:=by rw [<-aa Bx];exact jL
 have J4:hh<=1048576:=by rw [<-aa Gi];exact Rz
 have JX:un<=1048576:=by rw [<-aa Jk];exact Ad
 have Ox:=ae FG;have HY:=ae hy;have HU1:Hid (∀ i∈nd.holders,0<=i/\i<18446744073709551616):=Yp;have HU2:Hid (∀ i∈nd.watchers,0<=i/\i<18446744073709551616):=Yo;have hnr:=FG.below aR;obtain ⟨c0,c1,c2,c3,c4,c5,c6,c7,-,-,-,-,-⟩:=hnr;obtain ⟨ow,mo,ep,ge,e1,e2,e3,e4⟩:∃ a b c d,nd.owner=a/\nd.mode=b/\nd.aB=c/\nd.gen=d:=⟨_,_,_,_,rfl,rfl,rfl,rfl⟩
 rw [e1] at c2;rw [e2] at c3;rw [e3] at c5;rw [e4] at c6;have HE:=ae (ag e1 (ag e2 (ag e3 e4)));clear fL hy hA FG vG jL Zu Rz Ad Yp Yo e1 e2 e3 e4;go_wp2_with fail;obtain ⟨X,hX⟩:=ax (wr.alloc (.cells #[.S pp pn pc,.S vq vn vc,.U ow,.I mo,.S hp hh hc,.U ep,.U ge,.S up un uc] 38));obtain ⟨C,eC⟩:=ax wr.heap.size;have bX:=ju hX;have zX:X.heap.size=wr.heap.size+1:=by rw [hX];simp
 obtain ⟨i1,i2,i3,i4⟩:=aa pK;have kO:X.heap[b]?=some (.cells #[.U e,.U g,.U x,.I t,.map (some bs),.map (some bn)] 132):=(bX.block b (aG i3)).trans i3;have rX:Rd X (.S pp pn pc) nd.path:=Ox.r0.below (ah aR bX);have KX:Hid (X.cell? ⟨b,5,none⟩=some (.map (some bn))/\X.cell? ⟨C,0,none⟩=some (.S pp pn pc)/\X.cell? ⟨C,1,none⟩=some (.S vq vn vc)/\X.cell? ⟨C,2,none⟩=some (.U ow)/\X.cell? ⟨C,3,none⟩=some (.I mo)/\X.cell? ⟨C,4,none⟩=some (.S hp hh hc)/\X.cell? ⟨C,5,none⟩=some (.U ep)/\X.cell? ⟨C,6,none⟩=some (.U ge)/\X.cell? ⟨C,7,none⟩=some (.S up un uc)/\Rd X (.S pp pn pc) nd.path):=by refine ⟨ay kO 5,?_,?_,?_,?_,?_,?_,?_,?_,rX⟩<;>(rw [hX,eC];simp)
 have uH:nH X (.S hp hh hc) nd.holders:=Ox.r4.below (ah aR bX);have uU:nH X (.S up un uc) nd.watchers:=Ox.r7.below (ah aR bX);rw [<-hX,<-eC];have UH:=ae uH;have UU:=ae uU;have HX:=ae (ag bX (ag zX kO));have HIN:=pK;clear hX c0 c1 c2 c3 c4 c5 c6 c7 uH uU rX bX zX kO i1 i2 i3 i4 pK;have HCE:=ae eC;clear eC;have kp:keyOf prog 9 (.string (aC nd.path))=some (bN nd.path):=by rw [WideMaps.keyOf_string_mk underlying9 (by rw [di,aa Bx];unfold maxLen;omega),kq]
 have yM:=ae kp;clear kp;refine bO (fun w'=>w'.cell? ⟨b,5,none⟩=some (.map (some bn))/\w'.cell? ⟨C,0,none⟩=some (.S pp pn pc)/\w'.cell? ⟨C,1,none⟩=some (.S vq vn vc)/\w'.cell? ⟨C,2,none⟩=some (.U ow)/\w'.cell? ⟨C,3,none⟩=some (.I mo)/\w'.cell? ⟨C,4,none⟩=some (.S hp hh hc)/\w'.cell? ⟨C,5,none⟩=some (.U ep)/\w'.cell? ⟨C,6,none⟩=some (.U ge)/\w'.cell? ⟨C,7,none⟩=some (.S up un uc)/\Rd w' (.S pp pn pc) nd.path) (by exact KX) fun hS=>?_;refine gC 0 1 2 3 hS ?_;refine fe 4 5 hS ?_;refine wpAnyH_take (i:=6) (oi:=_) (v:=?_) (by simp only [List.getElem?_toArray,List.getElem?_cons_succ,List.getElem?_cons_zero];rfl) cW cW cW (fun _ _ _ h=>h) (Or.inl ⟨bU,?_⟩) hS ?_;rotate_left;{(intro w' qi;(try dsimp only at qi);(have hcv:=gH (aa Bx) qi.2.2.2.2.2.2.2.2.2);go_simp;try with_reducible rfl)}
 simp only [Act.put,xa,xb,xc];refine gy 7 8 9 10 11 12 13 14 hS ?_;refine gC 15 16 17 18 hS ?_;refine fe 20 21 hS ?_;refine bH 19 fun KK hK=>?_;refine ia (yX hp hc hh nd.holders Gi _ (UH.below aJ.drew) J4 HU1) ?_;rintro r w2 ⟨D1,rfl,o1,s1,cX,uW⟩;refine ⟨_,rfl,?_⟩;have vf:Bw X w2:=ah (Below.refl X.heap.size X).drew cX;have KX2:Hid (w2.cell? ⟨b,5,none⟩=some (.map (some bn))/\w2.cell? ⟨C,0,none⟩=some (.S pp pn pc)/\w2.cell? ⟨C,1,none⟩=some (.S vq vn vc)/\w2.cell? ⟨C,2,none⟩=some (.U ow)/\w2.cell? ⟨C,3,none⟩=some (.I mo)/\w2.cell? ⟨C,4,none⟩=some (.S hp hh hc)/\w2.cell? ⟨C,5,none⟩=some (.U ep)/\w2.cell? ⟨C,6,none⟩=some (.U ge)/\w2.cell? ⟨C,7,none⟩=some (.S up un uc)/\Rd w2 (.S pp pn pc) nd.path):=by obtain ⟨k0,k1,k2,k3,k4,k5,k6,k7,k8,k9⟩:=aa KX;exact ⟨af k0 vf,af k1 vf,af k2 vf,af k3 vf,af k4 vf,af k5 vf,af k6 vf,af k7 vf,af k8 vf,k9.below vf⟩
 refine cg hK (by exact KX2) fun hS=>?_;clear hK KK;have zd:X.drew.heap.size=X.heap.size:=rfl;rw [zd] at o1 uW ⊢;obtain ⟨h1,Uf⟩:=ax X.heap.size;rw [<-Uf] at o1 uW ⊢;have Px:=ae (ag o1 (ag s1 (ag uW Uf)));have qv:=ae vf;clear o1 s1 cX uW vf zd Uf;refine bH 22 fun KK hK=>?_;refine ia (yX up uc un nd.watchers Jk _ (UU.below qv) JX HU2) ?_;rintro r w3 ⟨D2,rfl,o2,s2,de,OY⟩;refine ⟨_,rfl,?_⟩;have KX3:Hid (w3.cell? ⟨b,5,none⟩=some (.map (some bn))/\w3.cell? ⟨C,0,none⟩=some (.S pp pn pc)/\w3.cell? ⟨C,1,none⟩=some (.S vq vn vc)/\w3.cell? ⟨C,2,none⟩=some (.U ow)/\w3.cell? ⟨C,3,none⟩=some (.I mo)/\w3.cell? ⟨C,4,none⟩=some (.S hp hh hc)/\w3.cell? ⟨C,5,none⟩=some (.U ep)/\w3.cell? ⟨C,6,none⟩=some (.U ge)/\w3.cell? ⟨C,7,none⟩=some (.S up un uc)/\Rd w3 (.S pp pn pc) nd.path):=by obtain ⟨k0,k1,k2,k3,k4,k5,k6,k7,k8,k9⟩:=aa KX2;exact ⟨af k0 de,af k1 de,af k2 de,af k3 de,af k4 de,af k5 de,af k6 de,af k7 de,af k8 de,k9.below de⟩
 refine cg hK (by exact KX3) fun hS=>?_;clear hK KK;obtain ⟨u1,Ub⟩:=ax w2.heap.size;rw [<-Ub] at o2 OY ⊢;have HO2:=ae (ag o2 (ag s2 (ag OY Ub)));have ra:=ae de;clear o2 s2 de OY Ub;refine tn 23 hS ?_;refine bH 24 fun KK hK=>?_;refine Kw bU 137 _ bU (.agg #[.S vq vn vc,.U ow,.I mo,.map (some h1),.U ep,.U ge,.map (some u1)]) bU _ _ (Cz _ _ _ _ _ _ _ _) ?_;obtain ⟨Z,eZ⟩:=ax (w3.alloc (.cells #[.S vq vn vc,.U ow,.I mo,.map (some h1),.U ep,.U ge,.map (some u1)] 137));have bZ:=ju eZ;have hZ:Z.heap[w3.heap.size]?=some (.cells #[.S vq vn vc,.U ow,.I mo,.map (some h1),.U ep,.U ge,.map (some u1)] 137):=by rw [eZ];exact (MapKept.heap_alloc w3 _).1
 rw [<-eZ];clear eZ;have KX4:Hid (Z.cell? ⟨b,5,none⟩=some (.map (some bn))/\Z.cell? ⟨C,0,none⟩=some (.S pp pn pc)/\Z.cell? ⟨C,1,none⟩=some (.S vq vn vc)/\Z.cell? ⟨C,2,none⟩=some (.U ow)/\Z.cell? ⟨C,3,none⟩=some (.I mo)/\Z.cell? ⟨C,4,none⟩=some (.S hp hh hc)/\Z.cell? ⟨C,5,none⟩=some (.U ep)/\Z.cell? ⟨C,6,none⟩=some (.U ge)/\Z.cell? ⟨C,7,none⟩=some (.S up un uc)/\Rd Z (.S pp pn pc) nd.path):=by obtain ⟨k0,k1,k2,k3,k4,k5,k6,k7,k8,k9⟩:=aa KX3;exact ⟨af k0 bZ,af k1 bZ,af k2 bZ,af k3 bZ,af k4 bZ,af k5 bZ,af k6 bZ,af k7 bZ,af k8 bZ,k9.below bZ⟩
 refine cg hK (by exact KX4) fun hS=>?_;clear hK KK;obtain ⟨g1,eg1⟩:=ax w3.heap.size;rw [<-eg1] at hZ ⊢;have XV:Bw X Z:=ah (ah qv ra) bZ;obtain ⟨i1,i2,i3,i4⟩:=aa HIN;obtain ⟨bX,zX,kO⟩:=aa HX;obtain ⟨o1,s1,uW,Uf⟩:=aa Px;obtain ⟨o2,s2,OY,Ub⟩:=aa HO2;have Oi:Bw wr Z:=ah bX XV;obtain ⟨D0,oD,mD⟩:=i1.own;have hlen:(ns.take j).length=j:=by rw [List.length_take,aa em];omega
 rw [hlen] at oD;have oZ:Z.ownsMap prog 9 aZ bn j D0:=oD.kept (az Oi none) aU;have q1:Z.ownsMap prog 23 unitElem h1 hh D1:=(o1.kept (az (aa ra) none) aU).kept (az bZ none) aU;have q2:Z.ownsMap prog 23 unitElem u1 un D2:=o2.kept (az bZ none) aU;have lt3:=ra.size;have lt2:=qv.size;have rh:=oD.lt;have HQ:=ae (ag q1 (ag q2 (ag s1 s2)));have bb8:=ae (ag uW (ag Uf (ag OY (ag Ub (ag eg1 (ag zX (ag lt2 (ag lt3 rh))))))));have HOZ:=ae oZ;have an4:=ae (ag hZ (ag Oi (ag oD mD)));clear q1 q2 s1 s2 uW Uf OY Ub eg1 zX lt2 lt3 rh oZ hZ Oi oD mD i1 i2 i3 i4 bX kO o1 o2 XV bZ;refine bH 25 fun KK hK=>?_;refine ta bU _ _ _ 130 bU 9 _ kM underlying130 aZ bn j D0 bU (by exact HOZ) jC (.string (aC nd.path)) (.pointer (some ⟨g1,0,none⟩)) (bN nd.path) bU bU yM (.lit (.I g1)) [] rfl ?_;intro w4 uw sw;obtain ⟨hZ,Oi,oD,mD⟩:=aa an4;obtain ⟨i1,i2,i3,i4⟩:=aa HIN;obtain ⟨q1,q2,s1,s2⟩:=aa HQ;obtain ⟨uW,Uf,OY,Ub,eg1,zX,lt2,lt3,rh⟩:=aa bb8;have aI8:=sw.size;have zZ:=aG hZ;have zRZ:=Oi.size;have aO9:=aR.size;obtain ⟨eb,Ui,Uh,zW⟩:=aa HEQ;have hCe:=aa HCE;have Ro:Z.heap[b]?=some (.cells #[.U e,.U g,.U x,.I t,.map (some bs),.map (some bn)] 132):=(Oi.block b (aG i3)).trans i3;have nb:b≠bn:=ab;have nC:C≠bn:=ab;have KX5:Hid (w4.cell? ⟨b,5,none⟩=some (.map (some bn))/\w4.cell? ⟨C,0,none⟩=some (.S pp pn pc)/\w4.cell? ⟨C,1,none⟩=some (.S vq vn vc)/\w4.cell? ⟨C,2,none⟩=some (.U ow)/\w4.cell? ⟨C,3,none⟩=some (.I mo)/\w4.cell? ⟨C,4,none⟩=some (.S hp hh hc)/\w4.cell? ⟨C,5,none⟩=some (.U ep)/\w4.cell? ⟨C,6,none⟩=some (.U ge)/\w4.cell? ⟨C,7,none⟩=some (.S up un uc)/\Rd w4 (.S pp pn pc) nd.path):=by
  obtain ⟨k0,k1,k2,k3,k4,k5,k6,k7,k8,k9⟩:=aa KX4;have hC:=sw.block C ab (by simpa using nC);exact ⟨(bQ (sw.block b (aG Ro) (by simpa using nb)) _).trans k0,(bQ hC _).trans k1,(bQ hC _).trans k2,(bQ hC _).trans k3,(bQ hC _).trans k4,(bQ hC _).trans k5,(bQ hC _).trans k6,(bQ hC _).trans k7,(bQ hC _).trans k8,
   Ox.r0.below (bR (ah aR Oi) sw ab (fun j hj=>by cases hj;omega))⟩
 refine cg hK (by exact KX5) fun hS=>?_;clear hK KK;refine bu ?_;obtain ⟨e1,e2,e3,e4⟩:=aa HE;have dz:nI w w4 bn (ns.take (j+1)) (NB++[g1]) (HB++[h1]) (UB++[u1]):=by rw [l9 (aa HY)];refine i1.step nd g1 h1 u1 (az Oi none) ab ab ab ab aR.size (.S vq vn vc) Ox.r1 (by rw [e1,e2,e3,e4];exact hZ) (by rw [aa Gi];exact q1) s1 (by rw [aa Jk];exact q2) s2 (fun z hz=>?_) mD oD.isMap (by rw [hlen];exact uw) sw;obtain ⟨i,hi,JU⟩:=rS hz;intro ee;exact aV i j z nd JU (aa HY) hi (jD (aa fI z (aF JU)).1 (aa fI nd (aF (aa HY))).1 ee)
 have hse:pO w w4 bs ss SB:=(i2.kept (az Oi none) aU aU).kept sw dx (fun y hy=>by obtain ⟨i,hi⟩:=List.getElem?_of_mem hy;obtain ⟨s,hs⟩:∃ s,ss[i]?=some s:=⟨_,aK (by rw [<-i2.len];exact (aN.1 hi).1)⟩;obtain ⟨_,u,a2,_⟩:=i2.aI i s y hs hi;have:=jv oD a2;simpa using this)
 have gL:w4.heap[b]?=some (.cells #[.U e,.U g,.U x,.I t,.map (some bs),.map (some bn)] 132):=(sw.block b (aG Ro) (by simpa using nb)).trans Ro;have Rz:Bw w w4:=bR (ah aR Oi) sw ab (fun j hj=>by cases hj;omega);have X7:W.heap.size<=w4.heap.size:=ab;have hd4:∀ y∈(HB++[h1])++(UB++[u1]),y≠bs:=by intro y hy;simp only [List.mem_append,List.mem_singleton] at hy;rcases hy with (hy | rfl) | (hy | rfl);{exact i4 y (List.mem_append.2 (.inl hy))};{omega};{exact i4 y (List.mem_append.2 (.inr hy))};{omega}
 have bc6:=ae (ag dz (ag hse (ag gL hd4)));clear dz hse gL hd4 hS uw sw i1 i2 i3 i4 q1 q2 s1 s2 uW Uf OY Ub eg1 zX lt2 lt3 rh eb Ui Uh zW hCe hZ Oi oD mD Ro e1 e2 e3 e4 aI8 aO9 nb nC zZ zRZ KX KX2 KX3 KX4 KX5;go_wp2;go_roundw
 case rel=>exact ⟨j+1,_,_,_,ab,by go_num,bc6,Rz,X7⟩
 exact dC};{
 have da:=dy j m;have ekm:j=m:=ab;subst ekm;obtain ⟨i1,i2,i3,i4⟩:=aa pK;rw [List.take_of_length_le (by rw [aa em];exact Nat.le_refl _)] at i1;obtain ⟨eb,Ui,Uh,zW⟩:=aa HEQ;have FN:kc w wr b bs bn e g x t ss ns SB NB HB UB:=⟨i3,i2,i1,ab,by rw [List.nodup_cons];refine ⟨fun fK=>?_,i1.BF⟩;rcases List.mem_cons.1 fK with hh | hh;{omega};{exact i4 _ hh rfl}⟩
 have bd2:=ae FN;clear i1 i2 i3 i4 eb Ui Uh zW FN;go_wp2;go_ret;exact ⟨b,rfl,⟨bs,bn,SB,NB,HB,UB,bd2⟩,aR⟩})})
end Go.Proofs.YtcfcafeciggjeaaGreatDoor
