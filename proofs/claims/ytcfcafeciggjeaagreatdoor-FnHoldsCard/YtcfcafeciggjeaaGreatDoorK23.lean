import Derived.Test.YtcfcafeciggjeaaGreatDoorK17
import Derived.Test.YtcfcafeciggjeaaGreatDoorK22
import Derived.Test.YtcfcafeciggjeaaGreatDoorK20
import Derived.Lib.ConvBytes
import Derived.LaidEql
import Derived.Stop.Asserts
import Derived.RowKitTokens
import Derived.Test.YtcfcafeciggjeaaGreatDoorRows
import Derived.ShutString
import Derived.ChangeOld
import Derived.HandedShaped
import Derived.Shelf.Vars
import Derived.LaidMore
import Derived.Lay
import Derived.Stop.Joined
import Derived.OpenVars
namespace Go.Proofs.YtcfcafeciggjeaaGreatDoor
set_option maxHeartbeats 8000000
set_option linter.all false
set_option maxRecDepth 100000
set_option linter.unusedVariables false
open Go.ChangeShapes Go.WideShapes Go.ChangeAt Go.RowKit Go.Deep Go.Proofs.Tryz
variable {B c g i t:Nat} {K:Act->World->Prop} {a a':Act} {cd l:List Int} {es:List Ev} {oi:Oper} {p:Option Addr} {v:Value} {w w' w1 w2:World}
theorem Rd.Qv {H:Type} {enc:TypeId × Value->H} {n:Nat} {cs:List Value} {x:DataW H × List MemPlace} (h:DataW.trod enc prog w 0 (fun _=>true) true n 22 cs=some x) :
  ∃ (p:Option Addr) (l:List Int) (c:Nat),cs=[.S p l.length c]/\Rd w (.S p l.length c) l/\l.length<=maxLen/\(∀ z∈l,(Lit.int .u8 z).wf=true):=by
 rcases open_ints underlying22 underlying5 (by kernel_rfl) h with ⟨rfl,_⟩ | ⟨a,len,cap,zs,rfl,_,hl,hm,hz,_,bG,hwz⟩;{exact ⟨none,[],0,rfl,Rd.nil w,by simp,by simp⟩};{
 simp only [if_true] at hz;have e:(zs.take len).length=len:=by simp;omega
 refine ⟨some a,zs.take len,cap,by rw [e],?_,by omega,fun z h=>hwz z (List.mem_of_mem_take h)⟩;refine ⟨some a,cap,rfl,?_⟩;by_cases h0:len=0;{left;subst h0;simp}
 {
 right
 obtain ⟨b,o,spot⟩:=a;have hs:spot=none:=by simpa [Addr.add] using World.cell?_spot (bG 0 (by omega))
 subst hs;refine ⟨b,o,rfl,fun i hi=>?_⟩;rw [e] at hi;have:=bG i (by omega);simp only [Addr.add_lit] at this;rw [this];simp [List.getD,List.getElem?_take,hi]}}
theorem Rd.kU {H:Type} {enc:TypeId × Value->H} {n:Nat} {cs:List Value} {x:DataW H × List MemPlace} (h:DataW.trod enc prog w 0 (fun _=>true) true n 22 cs=some x) :
  ∃ (p:Option Addr) (l:List Int) (c:Nat),cs=[.S p l.length c]/\Rd w (.S p l.length c) l/\l.length<=maxLen/\l.length<=c/\(∀ z∈l,0<=z/\z<256):=by
 obtain ⟨p,l,c,e,hr,hm,hw⟩:=Rd.Qv h;refine ⟨p,l,c,e,hr,hm,?_,fun z hz=>?_⟩;{rcases open_ints underlying22 underlying5 (by kernel_rfl) h with ⟨rfl,_⟩ | ⟨a,len,cap,zs,rfl,_,hl,_⟩;{simp at e;omega};{simp at e;omega}};{have:=hw z hz;simp [Lit.wf,IntKind.min,IntKind.max,IntKind.signed,IntKind.bits] at this;omega}
theorem cG (cd:List Int) (hb:∀ z∈cd,0<=z/\z<256) (t:Nat):0<=cd.getD t 0/\cd.getD t 0<256:=by
 by_cases h:t<cd.length;{rw [List.getD,aK h];exact hb _ (List.getElem_mem h)};{rw [List.getD,List.getElem?_eq_none (by omega)];simp}
theorem jl (x:Int) (n:Nat) (w:World) (hn:n<=300000) :
  Calls prog 81 #[.int .u8 x,.I n] w fun e w'=>∃ p' c',e=.returned (.S p' n c')/\Own w.heap.size w' (.S p' n c') (List.replicate n x)/\Bw w w':=by
 go_enter func81,ntmps81;go_wp2
 go_loopw [5,6] (fun v i wr=>∃ (k:Nat) (p:Option Addr) (c:Nat) (l:List Int),k<=n/\i=.I k/\Hid (l=List.replicate k x)/\l.length=k/\v=.S p k c/\Own w.heap.size wr (.S p k c) l/\Bw w wr) (fun _ i _=>n-(intOf i).toNat)
 case atStart=>exact ⟨0,none,0,[],Nat.zero_le _,rfl,rfl,rfl,rfl,World.ownsRow_nil _ _ _ _,Below.refl _ _⟩
 case round =>(
 obtain ⟨k,p,c,l,hk,rfl,el,hl,rfl,ho,aR⟩:=hrel;by_cases bj:k<n;{
 obtain ⟨lm,Bu⟩:=ax (l++[x]);have OR:lm.length=k+1:=by simp [Bu,hl]
 have HLM:=ae OR;have el2:Hid (lm=List.replicate (k+1) x):=by show _=_;rw [Bu,aa el,List.replicate_succ']
 have Gf:=ae Bu;clear OR el Bu;go_wp2_with (at_builtin;refine ga rfl _ _ rfl w.heap.size (.S p k c) l lm x Gf wr.heap.size rfl rfl (Own.below ho (aJ.alloc aA _)) (by simp) (by omega) (by have:=aR.size;simp;omega) ?_);intro p' c' w2 vF fU;have b2:Bw w w2:=(aR.alloc aR.size (.cells #[.int .u8 x] 5)).grown fU (by have:=aR.size;simp;omega) (fun k hk=>(ho.lt k hk).1);simp only [aa HLM];have VI:Own w.heap.size w2 (.S p' (k+1) c') lm:=by have h2:=vF;simp only [aa HLM] at h2;exact h2
 clear vF fU ho aR hl Gf;go_wp2;go_roundw
 case rel=>exact ⟨k+1,p',c',lm,by omega,by go_num,el2,HLM,rfl,VI,b2⟩
 case measure=>simp [intOf];omega}
 {
 have e:k=n:=by omega
 subst e;rw [aa el] at ho;clear el hl;go_wp2;go_ret;exact ⟨p,c,rfl,ho,aR⟩})
theorem Fs (p:Option Addr) (c:Nat) (l:List Int) (w:World) (hl:l.length<=1048576) (hc:l.length<=c) :
  Calls prog 30 #[.S p l.length c] w fun e w'=>e=.returned (.pointer (some ⟨w.heap.size,0,none⟩))/\w'=w.alloc (.cells #[.S p (l.take 500).length c,.I 0] 117):=by
 by_cases h:500<l.length;{
 have e:(l.take 500).length=500:=by simp;omega
 rw [e];go_enter func30,ntmps30;go_wp2;go_ret;exact ⟨rfl,rfl⟩};{
 have e:(l.take 500).length=l.length:=by simp;omega
 rw [e];go_enter func30,ntmps30;go_wp2;go_ret;exact ⟨rfl,rfl⟩}
theorem GL (l:List Int):l.take (l.take 500).length=l.take 500:=by
 by_cases h:500<=l.length;{rw [show (l.take 500).length=500 by simp;omega]};{rw [show (l.take 500).length=l.length by simp;omega,List.take_length,List.take_of_length_le (by omega)]}
theorem Rd.GL (h:Rd w (.S p l.length c) l):Rd w (.S p (l.take 500).length c) (l.take 500):=by
 obtain ⟨q,d,e,hh⟩:=h;simp only [Value.slice.injEq] at e;obtain ⟨rfl,-,rfl⟩:=e;refine ⟨p,c,rfl,?_⟩;rcases hh with rfl | ⟨b,o,rfl,hc⟩;{left;rfl}
 {
 right
 refine ⟨b,o,rfl,fun i hi=>?_⟩;rw [List.length_take] at hi;rw [hc i (by omega)];simp [List.getD,List.getElem?_take,show i<500 by omega]}
theorem Rd.old (h:Rd w v l) (hl:l≠[]):∀ b,v.ownBlock=some b->b<w.heap.size:=by
 obtain ⟨p,cap,rfl,h⟩:=h;intro b e;rcases h with rfl | ⟨b',o,rfl,hc⟩;{exact absurd rfl hl};{simp [Value.ownBlock] at e;subst e;have hp:0<l.length:=List.length_pos_iff.2 hl;exact World.block_lt_of_cell? w _ (hc 0 hp)}
structure lu (w:World) (g:Nat) (p:Option Addr) (cd:List Int) (c t:Nat):Prop where
 c0:w.cell? ⟨g,0,none⟩=some (.S p cd.length c)
 c1:w.cell? ⟨g,1,none⟩=some (.I (min t cd.length:Nat))
 ty:∃ cur,w.heap[g]?=some (.cells cur 117)
 rd:Rd w (.S p cd.length c) cd
 lo:cd≠[]->∀ b,(Value.slice p cd.length c).ownBlock=some b->b<g
theorem lu.lt (h:lu w g p cd c t):g<w.heap.size:=World.block_lt_of_cell? w _ h.c0
theorem lu.fz (h:lu w g p cd c t) (o:Nat):w.frozen? ⟨g,o,none⟩=false:=by
 obtain ⟨cur,hc⟩:=h.ty;simp [World.frozen?,hc]
theorem Rd.ZG (h:Rd w v l) (lo:l≠[]->∀ b,v.ownBlock=some b->b<B) (hb:∀ b,b<B->w'.heap[b]?=w.heap[b]?):Rd w' v l:=by
 obtain ⟨p,c,rfl,hd⟩:=h;refine ⟨p,c,rfl,?_⟩;rcases hd with hd | ⟨b,o,rfl,hd⟩;{exact .inl hd};{by_cases hl:l=[];{exact .inl hl};{exact .inr ⟨b,o,rfl,fun i hi=>(ai (hb b (lo hl b rfl)) _).trans (hd i hi)⟩}}
theorem lu.aU (h:lu w g p cd c t) (hb:∀ b,b<=g->w'.heap[b]?=w.heap[b]?):lu w' g p cd c t:=
 ⟨(ai (hb g aA) _).trans h.c0,(ai (hb g aA) _).trans h.c1,h.ty.imp fun cur hc=>(hb g aA).trans hc,h.rd.ZG h.lo fun b hl=>hb b (by omega),h.lo⟩
theorem lu.low (h:lu w g p cd c t) (hb:Below B w w') (hB:g<B):lu w' g p cd c t:=by
 have:=h.lt;by_cases hz:B<=w.heap.size;{exact h.aU fun b hl=>hb.block b (by omega)};{exact h.aU fun b hl=>hb.block b (by omega)}
theorem lu.step (h:lu w g p cd c t) (bj:t<cd.length):lu (w.setCell ⟨g,1,none⟩ (.I ((t:Int)+1))) g p cd c (t+1):=by
 have hh:∀ b,b≠g->(w.setCell ⟨g,1,none⟩ (.I ((t:Int)+1))).heap[b]?=w.heap[b]?:=fun b hb=>dF _ _ _ _ hb;refine ⟨?_,?_,(bf h.ty).1,h.rd.ZG h.lo fun b hl=>hh b (by omega),h.lo⟩;{rw [World.cell?_setCell_other w ⟨g,1,none⟩ ⟨g,0,none⟩ _ (by simp)];exact h.c0};{
 rw [World.cell?_setCell_same w ⟨g,1,none⟩ _ h.c1];have e:((min (t+1) cd.length:Nat):Int)=(t:Int)+1:=by omega
 rw [e]}
theorem lu.stay (h:lu w g p cd c t) (bj:¬ t<cd.length):lu w g p cd c (t+1):=by
 refine ⟨h.c0,?_,h.ty,h.rd,h.lo⟩;rw [h.c1];have e:min t cd.length=min (t+1) cd.length:=by omega
 rw [e]
def Dr (g:Nat) (w w':World):Prop:=Fr [117] w w'/\Below g w w'/\∀ b,b≠g->b<w.heap.size->w'.heap[b]?=w.heap[b]?
theorem Dr.trans (h:Dr g w w1) (h2:Dr g w1 w2):Dr g w w2:=⟨h.1.trans h2.1,h.2.1.trans h2.2.1,fun b hb hl=>(h2.2.2 b hb (by have:=h.2.1.size;omega)).trans (h.2.2 b hb hl)⟩
theorem Dr.below (h:Bw w w1) (hg:g<w.heap.size):Dr g w w1:=⟨Fr.below h,h.mono (by omega),fun b _ hl=>h.block b hl⟩
theorem Dr.add (h:Dr g w w1) (h2:Below w.heap.size w1 w2) (hg:g<w.heap.size):Dr g w w2:=
 ⟨⟨Nat.le_trans h.1.1 h2.size,fun b cur ty m ht hb=>(h2.block b (cF hb)).trans (h.1.2 b cur ty m ht hb)⟩,h.2.1.trans (h2.mono (by omega)),fun b hb hl=>(h2.block b hl).trans (h.2.2 b hb hl)⟩
theorem fD (g:Nat) (p:Option Addr) (cd:List Int) (c t:Nat) (w:World) (h:lu w g p cd c t) (hb:bM cd) (hl:cd.length<=500) :
  Calls prog 48 #[.pointer (some ⟨g,0,none⟩)] w fun e w'=>e=.returned (.I (cd.getD t 0))/\lu w' g p cd c (t+1)/\Dr g w w':=by
 obtain ⟨c0,c1,⟨cur,ty⟩,rd,lo⟩:=id h;by_cases bj:t<cd.length;{
 have em:min t cd.length=t:=by omega
 rw [em] at c1;obtain ⟨q,d,e1,hh⟩:=id rd;simp only [Value.slice.injEq] at e1;obtain ⟨rfl,-,rfl⟩:=e1;rcases hh with rfl | ⟨b,o,rfl,hc⟩;{simp at bj};{
 have mx:w.cell? ⟨b,o+t,none⟩=some (.int .u8 cd[t]):=by rw [hc t bj];simp [bj]
 have hx:=hb _ (List.getElem_mem bj);have f1:=h.fz 1;have i1:(t:Int)<(cd.length:Int):=by omega
 have i0:=dE 0 t;have hng:¬ ((cd.length:Int)<=t):=by omega
 have aN3:decide ((cd.length:Int)<=t)=false:=by simp;omega
 have HG:Hid (cd.getD t 0=cd[t]):=by show _=_;simp [bj]
 have H:=ae h;have HN:b≠g:=fun e=>by have:=lo (by intro e0;subst e0;simp at bj) b rfl;omega
 have TY:=ae ty;clear hc rd lo h ty;go_enter func48,ntmps48;go_wp2
 go_quiet (fail)
 go_wp2
 go_quiet (fail)
 go_wp2;go_ret;exact ⟨by rw [HG.out];rfl,lu.step (lu.low (aa H) (below_drewN (Below.refl w.heap.size w) _) H.lt) bj,Fr.set (w:=w.drewN _) (aa TY) (by simp),Below.setCell (p:=⟨g,1,none⟩) ((below_drewN (Below.refl w.heap.size w) _).mono (Nat.le_of_lt H.lt)) aA _,fun b' cR sv=>dF _ _ _ _ cR⟩}};{
 have em:min t cd.length=cd.length:=by omega
 rw [em] at c1;have aN3:decide ((cd.length:Int)<=(cd.length:Int))=true:=by simp
 have HG:Hid (cd.getD t 0=0):=by show _=_;rw [List.getD,List.getElem?_eq_none (by omega)];rfl
 have H:=ae h;clear rd lo h ty;go_enter func48,ntmps48;go_wp2
 go_quiet (fail)
 go_wp2;go_ret;exact ⟨by rw [HG.out];rfl,(H.low (below_drewN (Below.refl w.heap.size w) _) H.lt).stay bj,Dr.below (below_drewN (Below.refl w.heap.size w) _) H.lt⟩}
theorem ZH (g:Nat) (p:Option Addr) (cd:List Int) (c t:Nat) (w:World) (h:lu w g p cd c t) (hl:cd.length<=500) :
  Calls prog 135 #[.pointer (some ⟨g,0,none⟩)] w fun e w'=>e=.returned (.I ((cd.length-t:Nat):Int))/\Bw w w':=by
 have c0:=h.c0;have c1:=h.c1;have E:=ae (show ((cd.length-t:Nat):Int)=(cd.length:Int)-((min t cd.length:Nat):Int) by omega);obtain ⟨m,em⟩:=ax (min t cd.length);rw [<-em] at c1 E;have hm:m<=cd.length:=by omega
 generalize cd.length=n at *;clear h em;go_enter func135,ntmps135;go_wp2
 go_quiet (fail)
 go_wp2;go_ret;exact ⟨by rw [aa E];rfl,below_drewN aJ _⟩
def GC (B:Nat) (w:World) (v:Value) (l:List Int):Prop:=∃ g C,v=.S (some ⟨g,0,none⟩) l.length C.size/\B<=g/\w.heap[g]?=some (.cells C 5 (C.size,C.size+1))/\C.size<=maxLen/\l.length<=C.size/\C.toList.take l.length=l.map (Value.int .u8)
theorem GC.tb (h:GC B w v l):TB w v l:=by
 obtain ⟨g,C,rfl,hB,hg,hm,hl,ht⟩:=h;refine ⟨⟨_,_,rfl,.inr ⟨g,0,rfl,fun i hi=>?_⟩⟩,fun b e=>.inr ?_,_,_,_,rfl,hl,hm⟩;{
 rw [Nat.zero_add,cell_of_row _ _ _ _ _ _ hg,<-Array.getElem?_toList];have:(C.toList.take l.length)[i]?=(l.map (Value.int .u8))[i]?:=by rw [ht]
 rw [List.getElem?_take,if_pos hi] at this;rw [this,List.getElem?_map,List.getD_eq_getElem?_getD,aK hi]
 rfl}
 {simp only [Value.ownBlock,Option.some.injEq] at e;subst e;exact ⟨C,_,hg⟩}
theorem GC.lt (h:GC B w v l):∀ b,v.ownBlock=some b->B<=b/\b<w.heap.size:=fun b e=>by
 obtain ⟨g,C,rfl,hB,hg,-⟩:=h;simp only [Value.ownBlock,Option.some.injEq] at e;subst e;exact ⟨hB,cF hg⟩
theorem GC.fr {T:List TypeId} (h:GC B w v l) (hf:Fr T w w') (ht:5∉T:=by decide):GC B w' v l:=by
 obtain ⟨g,C,rfl,hB,hg,r⟩:=h;exact ⟨g,C,rfl,hB,hf.2 _ _ _ _ ht hg,r⟩
theorem GC.mono {B':Nat} (h:GC B w v l) (hB:B'<=B):GC B' w v l:=by
 obtain ⟨g,C,rfl,h1,r⟩:=h;exact ⟨g,C,rfl,by omega,r⟩
theorem vM (w:World) (hB:bM l) (hl:l.length<=1048576):∃ c W,(convert 9 22 (.string (aC l))).run prog w=.ok (.S (some ⟨w.heap.size,0,none⟩) l.length c) W/\GC w.heap.size W (.S (some ⟨w.heap.size,0,none⟩) l.length c) l/\Bw w W:=by
 have cK:=Lib.run_convert_string_bytes (P:=prog) w 9 22 5 (aC l) underlying9 underlying22 underlying5;rw [di] at cK;have Tt:l.length<=grownCap w l.length 0 5:=grownCap_ge w l.length 0 5;have hle:grownCap w l.length 0 5<=maxLen:=grownCap_le_maxLen w l.length 0 5 (by unfold maxLen;omega);have hdl:(aC l).data.size=l.length:=di l;have Ce:(Lib.bytesCells w 5 (aC l)).size=grownCap w l.length 0 5:=by simp only [Lib.bytesCells,Array.size_append,Array.size_map,Array.size_replicate,hdl,di];omega
 refine ⟨_,_,cK,⟨w.heap.size,Lib.bytesCells w 5 (aC l),by rw [Ce],Nat.le_refl _,Lib.bytesWorld_at_new w 5 (aC l),by rw [Ce];exact hle,by rw [Ce];exact Tt,?_⟩,⟨rfl,rfl,rfl,by rw [Lib.bytesWorld_size];omega,fun k hk=>Lib.bytesWorld_at_old _ _ _ _ hk⟩⟩;simp only [Lib.bytesCells,Array.toList_append,Array.toList_map];have e:(aC l).data.toList.map (fun b=>Value.int .u8 b.toNat)=l.map (Value.int .u8):=by rw [fM,List.map_map];refine List.map_congr_left fun z hz=>?_;have:=hB z hz;simp;omega
 rw [e,List.take_append_of_le_length (by simp),List.take_of_length_le (by simp)]
theorem uh (P:Program) (g o:Nat) (t:TypeId) (fz:Nat × Nat):∀ (vs:List Value) (i:Nat) (cur:Array Value) (w:World),w.heap[g]?=some (.cells cur t fz)->o+i+vs.length<=fz.1->o+i+vs.length<=cur.size->(∀ v∈vs,v.oneCell'=true) →
  (storeCells ⟨g,o,none⟩ vs i).run P w=.ok () (w.setRow g (cur.toList.take (o+i)++vs++cur.toList.drop (o+i+vs.length)).toArray)
 | [],i,cur,w,hg,_,_,_=>by
  simp only [storeCells,List.append_nil,List.length_nil,Nat.add_zero,List.take_append_drop,Array.toArray_toList];rw [setRow_self w g cur t fz hg]
  rfl
 | v::rest,i,cur,w,hg,My,hl,h1=>by
  have hi:o+i<cur.size:=by simp at hl;omega
  have Rp:(⟨g,o,none⟩:Addr).add i=⟨g,o+i,none⟩:=by unfold Addr.add;split<;>simp_all
  have bG:w.cell? ⟨g,o+i,none⟩=some cur[o+i]:=by simp [World.cell?,hg,hi]
  have aN4:w.frozen? ⟨g,o+i,none⟩=false:=by
   obtain ⟨lo,O0⟩:=fz;simp only [World.frozen?,hg,Bool.and_eq_false_iff,decide_eq_false_iff_not]
   left
   simp only [List.length_cons] at My;omega
  have dz:(store ((⟨g,o,none⟩:Addr).add i) v).run P w=.ok () (w.setRow g (cur.setIfInBounds (o+i) v)):=by rw [Rp,run_store P w _ v _ (h1 v (by simp)),bG];simp [aN4,setCell_eq_setRow w g (o+i) cur t fz v hg]
  have ih:=uh P g o t fz rest (i+1) (cur.setIfInBounds (o+i) v) (w.setRow g (cur.setIfInBounds (o+i) v)) (setRow_heap w g cur _ t _ hg) (by simp at My ⊢;omega) (by simp at hl ⊢;omega) (fun x hx=>h1 x (by simp [hx]));simp only [storeCells,Sem.run_bind,dz,Result.andThen_ok,ih,setRow_setRow]
  congr 3
  have e:=list_seg_step cur.toList (o+i) v rest (by simp at hl ⊢;omega);simpa [Array.toList_setIfInBounds,Nat.add_assoc] using e
theorem Xr (h:GC B w v l) (hl:l.length<=1000) (x y:Int) (g2:Nat) (c0:w.cell? ⟨g2,0,none⟩=some (.int .u8 x)) (c1:w.cell? ⟨g2,1,none⟩=some (.int .u8 y)) (hB:B<=w.heap.size) :
  ∃ p' c' w',(Builtin.append_ #[22,22] 22 #[v,.S (some ⟨g2,0,none⟩) 2 2]).run prog w=.ok (.S p' (l.length+2) c') w'/\TB w' (.S p' (l.length+2) c') (l++[x,y])/\w.grownBy w' v.ownBlock:=by
 obtain ⟨i,hi,hz,hs,hb⟩:=info_parts Tryz.infoByte;obtain ⟨g,C,rfl,hBg,hg,hm,hlc,ht⟩:=h;have eh:∀ j u,([.int .u8 x,.int .u8 y]:List Value)[j]?=some u->w.cell? ((⟨g2,0,none⟩:Addr).add j)=some u:=fun j u hu=>by rw [Addr.add_lit];rcases j with _ | _ | j;{simp at hu;subst hu;exact c0};{simp at hu;subst hu;exact c1};{simp at hu}
 have IZ:([.int .u8 x,.int .u8 y]:List Value).length=2*i.size:=by rw [hs];rfl
 by_cases sg:l.length+2<=C.size;{
 have hf:=run_firstCells_some (P:=prog) w i.size 2 ⟨g2,0,none⟩ 2 2 [.int .u8 x,.int .u8 y] IZ eh;have dz:=uh prog g (l.length*i.size) 5 (C.size,C.size+1) [.int .u8 x,.int .u8 y] 0 C w hg (by rw [hs];simp;omega) (by rw [hs];simp;omega) (fun u hu=>by simp at hu;rcases hu with rfl | rfl<;>rfl);simp only [Nat.add_zero,hs,Nat.mul_one] at dz;refine ⟨some ⟨g,0,none⟩,C.size,w.setRow g (C.toList.take l.length++[Value.int .u8 x,Value.int .u8 y]++C.toList.drop (l.length+2)).toArray,?_,⟨⟨_,_,by rw [List.length_append];rfl,.inr ⟨g,0,rfl,fun j hj=>?_⟩⟩,fun b e=>.inr ?_,_,_,_,rfl,sg,hm⟩,⟨rfl,rfl,rfl,by simp,fun k _ hk=>setRow_other w g k _ (fun e=>hk (by simp [Value.ownBlock,e]))⟩⟩;{rw [hs] at hf;simp [Builtin.append_,run_underlying underlying22,sizeOf,typeInfo,hi,Builtin.lenOf,sg,hf,Addr.add_lit,dz,hs]};{
 rw [Nat.zero_add,cell_of_row _ _ _ _ _ _ (setRow_heap w g C _ _ _ hg),List.getElem?_toArray,ht];rw [List.length_append] at hj;simp at hj;rw [List.getElem?_append_left (by simp;omega),List.getD_eq_getElem?_getD];by_cases h1:j<l.length;{
 rw [List.getElem?_append_left (by simpa using h1),List.getElem?_append_left h1,List.getElem?_map,aK h1]
 rfl}
 {
 rw [List.getElem?_append_right (by simpa using h1),List.getElem?_append_right (by omega)];simp only [List.length_map];have:j-l.length=0\/j-l.length=1:=by omega
 rcases this with e | e<;>rw [e]<;>rfl}}
 {simp only [Value.ownBlock,Option.some.injEq] at e;subst e;exact ⟨_,_,setRow_heap w g C _ _ _ hg⟩}};{
 have holds:∀ j u,(l.map (Value.int .u8))[j]?=some u->w.cell? ((⟨g,0,none⟩:Addr).add j)=some u:=fun j u hu=>by
  rw [Addr.add_lit,Nat.zero_add,cell_of_row _ _ _ _ _ _ hg,<-Array.getElem?_toList];have hj:j<l.length:=by have:=(aN.1 hu).1;simpa using this
  have:(C.toList.take l.length)[j]?=(l.map (Value.int .u8))[j]?:=by rw [ht]
  rw [List.getElem?_take,if_pos hj] at this;rw [this,hu]
 have hr:=run_append_grow (P:=prog) w 22 22 5 i (.int .u8 0) underlying22 hi hz ⟨g,0,none⟩ l.length C.size (l.map (Value.int .u8)) (by rw [hs];simp) holds ⟨g2,0,none⟩ 2 2 [.int .u8 x,.int .u8 y] IZ eh (by omega) (by omega) (growslice_fits (by omega) (by rw [hb];omega));refine ⟨_,_,_,hr,⟨⟨_,_,by rw [List.length_append];rfl,.inr ⟨w.heap.size,0,rfl,fun j hj=>?_⟩⟩,fun b e=>.inr ?_,_,_,_,rfl,grownCap_ge _ _ _ _,grownCap_le_maxLen _ _ _ _ (by unfold maxLen;omega)⟩,⟨rfl,rfl,rfl,by simp,fun k hk _=>Go.heap_alloc_old w.drew _ hk⟩⟩;{
 rw [Nat.zero_add,cell_of_row _ w.heap.size _ _ _ _ (Go.heap_alloc_new w.drew _)];rw [List.length_append] at hj;simp at hj;rw [Array.getElem?_append_left (by simp;omega),show (l.map (Value.int .u8)).toArray++[Value.int .u8 x,.int .u8 y].toArray=((l++[x,y]).map (Value.int .u8)).toArray by simp,List.getElem?_toArray,List.getElem?_map,List.getD_eq_getElem?_getD,aK (by simp;omega)]
 rfl}
 {simp only [Value.ownBlock,Option.some.injEq] at e;subst e;exact ⟨_,_,Go.heap_alloc_new w.drew _⟩}}
def CJ:List (List Int):=[[47,97],[47,97,47,120],[47,97,47,121],[47,98],[47,97,47,120,47,107],[47,98,45,49],[47,99],[47,122,122,47,116,111,112],[47,98,47,113],[47,97,47,120,47,107,47,109]]
def Vf:List (List Int):=[[],[47],[97],[47,47],[47,97,47],[47,65],[47,97,32,98],[47,97,97,97,97,97,97,97,97,97,97,97,97,97,97,97,97],[47,97,97,97,97,97,97,97,97,97,97,97,97,97,97,97,97,97],[47,49,47,50,47,51,47,52,47,53,47,54,47,55,47,56],[47,49,47,50,47,51,47,52,47,53,47,54,47,55,47,56,47,57],[47,95],[47,97,47,45],[47,97,0],[47,97,47,47,98]]
theorem Ku {T:List (List Int)} (h:(T.all fun l=>decide (l.length<=18)&&l.all fun z=>decide (0<=z)&&decide (z<256))=true) (m:Nat):bM (T.getD m [])/\(T.getD m []).length<=18:=by
 rw [List.getD_eq_getElem?_getD];cases hm:T[m]? with
 | none=>exact ⟨fun z hz=>by simp at hz,by simp⟩
 | some l=>
  have:=List.all_eq_true.1 h l (aF hm);simp only [Bool.and_eq_true,decide_eq_true_eq,List.all_eq_true] at this;exact ⟨fun z hz=>this.2 z hz,this.1⟩
theorem vw (m:Nat):bM (CJ.getD m [])/\(CJ.getD m []).length<=18:=Ku (by decide) m
theorem Qx (m:Nat):bM (Vf.getD m [])/\(Vf.getD m []).length<=18:=Ku (by decide) m
theorem kV (w:World):Calls prog 134 #[] w fun r w'=>r=.returned (.S (some ⟨w.heap.size,0,none⟩) 10 10)/\(∀ m,m<10->w'.cell? ⟨w.heap.size,m,none⟩=some (.string (aC (CJ.getD m []))))/\Bw w w'/\w'.heap.size=w.heap.size+1/\∃ cur,w'.heap[w.heap.size]?=some (.cells cur 9):=by
 go_enter func134,ntmps134;go_wp2;go_ret;refine ⟨rfl,fun m hm=>?_,aJ.alloc aA _,by simp,_,heap_alloc_new w _⟩;rw [cell_of_row _ _ _ _ _ _ (heap_alloc_new w _)];have:m=0\/m=1\/m=2\/m=3\/m=4\/m=5\/m=6\/m=7\/m=8\/m=9:=by omega
 rcases this with rfl | rfl | rfl | rfl | rfl | rfl | rfl | rfl | rfl | rfl<;>rfl
def aq0 (cd:List Int) (t:Nat) (P:List Int):Prop:=
 ∀ (g:Nat) (p:Option Addr) (c:Nat) (w:World),lu w g p cd c t->Calls prog 80 #[.pointer (some ⟨g,0,none⟩)] w fun r w'=>∃ pp cp,r=.returned (.S pp P.length cp)/\GC w.heap.size w' (.S pp P.length cp) P/\lu w' g p cd c (t+1)/\Dr g w w'
theorem mU (cd:List Int) (t:Nat) (hb:bM cd) (hl:cd.length<=500):∃ P,bM P/\P.length<=18/\aq0 cd t P:=by
 have hr:=cG cd hb t;obtain ⟨x,ex⟩:=ax (cd.getD t 0);rw [<-ex] at hr;by_cases a1:x<200;{
 obtain ⟨m,hm,em⟩:∃ m:Nat,m<7/\x % 7=m:=⟨(x % 7).toNat,by omega,by omega⟩;obtain ⟨P,eP⟩:=aL (CJ.getD m []);obtain ⟨bP,lP⟩:=vw m;rw [aa eP] at bP lP;refine ⟨P,bP,lP,fun g p c w h=>?_⟩;have EX:=ae ex;clear ex;go_enter func80,ntmps80;go_wp2_with fail;refine (fD g p cd c t _ h hb hl).mono ?_;rintro r w1 ⟨rfl,h1,d1⟩;rw [<-aa EX];go_wp2_with fail;refine (kV w1).mono ?_;rintro r w2 ⟨rfl,jF,b2,z2,-⟩;have Bn:=jF m (by omega);rw [aa eP] at Bn;obtain ⟨cc,W,hcv,u9,bW⟩:=vM w2 bP (by omega);have aL2:(m:Int)<10:=by omega
 have HH:=ae (ag h (ag h1 (ag d1 (ag b2 (ag u9 (ag bW z2))))));clear jF h h1 d1 b2 u9 bW bP lP z2;go_wp2;go_ret;obtain ⟨h,h1,d1,b2,u9,bW,z2⟩:=aa HH;have hz:=d1.2.1.size;have mn:=h1.lt;exact ⟨_,_,rfl,u9.mono (B':=w.heap.size) (by omega),(h1.low b2 h1.lt).low bW (by omega),(d1.trans (Dr.below b2 h1.lt)).trans (Dr.below bW (by omega))⟩};{
 by_cases a2:x<235;{
 obtain ⟨m,hm,em⟩:∃ m:Nat,m<10/\x % 10=m:=⟨(x % 10).toNat,by omega,by omega⟩;obtain ⟨P,eP⟩:=aL (CJ.getD m []);obtain ⟨bP,lP⟩:=vw m;rw [aa eP] at bP lP;refine ⟨P,bP,lP,fun g p c w h=>?_⟩;have EX:=ae ex;clear ex;go_enter func80,ntmps80;go_wp2_with fail;refine (fD g p cd c t _ h hb hl).mono ?_;rintro r w1 ⟨rfl,h1,d1⟩;rw [<-aa EX];go_wp2_with fail;refine (kV w1).mono ?_;rintro r w2 ⟨rfl,jF,b2,z2,-⟩;have Bn:=jF m (by omega);rw [aa eP] at Bn;obtain ⟨cc,W,hcv,u9,bW⟩:=vM w2 bP (by omega);have aL2:(m:Int)<10:=by omega
 have HH:=ae (ag h (ag h1 (ag d1 (ag b2 (ag u9 (ag bW z2))))));clear jF h h1 d1 b2 u9 bW bP lP z2;go_wp2;go_ret;obtain ⟨h,h1,d1,b2,u9,bW,z2⟩:=aa HH;have hz:=d1.2.1.size;have mn:=h1.lt;exact ⟨_,_,rfl,u9.mono (B':=w.heap.size) (by omega),(h1.low b2 h1.lt).low bW (by omega),(d1.trans (Dr.below b2 h1.lt)).trans (Dr.below bW (by omega))⟩};{
 obtain ⟨m,hm,em⟩:∃ m:Nat,m<15/\x % 15=m:=⟨(x % 15).toNat,by omega,by omega⟩;obtain ⟨P,eP⟩:=aL (Vf.getD m []);obtain ⟨bP,lP⟩:=Qx m;rw [aa eP] at bP lP;refine ⟨P,bP,lP,fun g p c w h=>?_⟩;have EX:=ae ex;clear ex;go_enter func80,ntmps80;go_wp2_with fail;refine (fD g p cd c t _ h hb hl).mono ?_;rintro r w1 ⟨rfl,h1,d1⟩;rw [<-aa EX];go_wp2_with fail;refine (kV w1).mono ?_;rintro r w2 ⟨rfl,jF,b2,z2,-⟩;have bS3:(m:Int)<15:=by omega
 have HH:=ae (ag h (ag h1 (ag d1 (ag b2 z2))));clear jF h h1 d1 b2 z2
 go_upto_region 8 with fail
 generalize kn:w2.alloc _=W3;have b3:Bw w2 W3:=by rw [<-kn];exact aJ.alloc aA _
 have z3:W3.heap.size=w2.heap.size+1:=by rw [<-kn];simp
 have Bn:W3.cell? ⟨w2.heap.size,m,none⟩=some (.string (aC P)):=by
  rw [<-aa eP,<-kn,cell_of_row _ _ _ _ _ _ (heap_alloc_new w2 _)];have:m=0\/m=1\/m=2\/m=3\/m=4\/m=5\/m=6\/m=7\/m=8\/m=9\/m=10\/m=11\/m=12\/m=13\/m=14:=by omega
  rcases this with rfl | rfl | rfl | rfl | rfl | rfl | rfl | rfl | rfl | rfl | rfl | rfl | rfl | rfl | rfl<;>rfl
 obtain ⟨cc,W,hcv,u9,bW⟩:=vM W3 bP (by omega);have UC:=ae (ag b3 (ag u9 (ag bW z3)));clear kn b3 u9 bW bP lP z3;go_wp2;go_ret;obtain ⟨h,h1,d1,b2,z2⟩:=aa HH;obtain ⟨b3,u9,bW,z3⟩:=aa UC;have hz:=d1.2.1.size;have mn:=h1.lt;exact ⟨_,_,rfl,u9.mono (B':=w.heap.size) (by omega),((h1.low b2 h1.lt).low b3 (by omega)).low bW (by omega),((d1.trans (Dr.below b2 h1.lt)).trans (Dr.below b3 (by omega))).trans (Dr.below bW (by omega))⟩}}
def Ny (x:Int):Int:=if x<230 then 1+x % 4 else if x<245 then x % 12 else 18446744073709551615-x % 3
theorem Js {x:Int} (h:0<=x/\x<256):0<=Ny x/\Ny x<18446744073709551616:=by
 unfold Ny;split;{omega};{split<;>omega}
theorem Gk (g:Nat) (p:Option Addr) (cd:List Int) (c t:Nat) (w:World) (h:lu w g p cd c t) (hb:bM cd) (hl:cd.length<=500) :
  Calls prog 78 #[.pointer (some ⟨g,0,none⟩)] w fun r w'=>r=.returned (.U (Ny (cd.getD t 0)))/\lu w' g p cd c (t+1)/\Dr g w w':=by
 have hr:=cG cd hb t;go_enter func78,ntmps78;go_wp2_with fail;refine (fD g p cd c t _ h hb hl).mono ?_;rintro r w1 ⟨rfl,h1,d1⟩;obtain ⟨x,ex⟩:=ax (cd.getD t 0);rw [<-ex] at hr ⊢;have HH:=ae (ag h1 d1);have EX:=ae ex;clear ex h h1 d1;by_cases a1:x<230;{have E1:=ae (show Ny x=1+x % 4 by unfold Ny;rw [if_pos a1]);go_wp2;go_ret;exact ⟨by rw [<-aa EX,aa E1];rfl,aa HH⟩};{by_cases a2:x<245;{have E1:=ae (show Ny x=x % 12 by unfold Ny;rw [if_neg a1,if_pos a2]);go_wp2;go_ret;exact ⟨by rw [<-aa EX,aa E1];rfl,aa HH⟩};{have E1:=ae (show Ny x=18446744073709551615-x % 3 by unfold Ny;rw [if_neg a1,if_neg a2]);go_wp2;go_ret;exact ⟨by rw [<-aa EX,aa E1];rfl,aa HH⟩}}


def aZ5 (w:World) (x:List Int) (b a:Nat) (l:List Lf):Prop:=∃ p c,w.cell? ⟨b,a,none⟩=some (.S p x.length c)/\JI (.S p x.length c) x l
abbrev XF (w:World) (v:Value) (xs:List (List Int)) (A:List Lf):Prop:=JH (aZ5 w) 1 v xs A
def YF (w:World) (v:Value) (xs:List (List Int)):Prop:=∃ (p:Option Addr) (c:Nat),v=.S p xs.length c/\(xs=[]\/∃ b o,p=some ⟨b,o,none⟩/\∀ (i:Nat) (x:List Int),xs[i]?=some x->∃ u,w.cell? ⟨b,o+i,none⟩=some u/\Rd w u x)
abbrev ah9 (se pa:Bool) (lo hi vs:Int) (sq jo:Bool):Value:=.agg #[.bool se,.bool pa,.I lo,.I hi,.I vs,.bool sq,.bool jo]
theorem zs (se:Bool) (s:Int):se=true\/(se=false/\s=0)\/(se=false/\(s==0)=false):=by
 cases se;{exact .inr ((zf 0 s).imp (⟨rfl,·⟩) (⟨rfl,·⟩))};{exact .inl rfl}
theorem zp (pa:Bool) (n:Nat):pa=true\/(pa=false/\n=0)\/(pa=false/\((n:Int)==0)=false):=by
 rcases zs pa n with h | ⟨h,h2⟩ | h;{exact .inl h};{exact .inr (.inl ⟨h,by omega⟩)};{exact .inr (.inr h)}
theorem Nf (se pa:Bool) (lo hi vs:Int) (sq jo:Bool) (k s f e g:Int) (p q:Option Addr) (n m c d:Nat) (w:World) (B:Bool) (eB:Hid (Jf se pa lo hi vs sq s f n m e g=B)) :
  Calls prog 127 #[ah9 se pa lo hi vs sq jo,X5 k s (.S p n c) f (.S q m d) e g] w fun r w'=>r=.returned (.bool B)/\Bw w w':=by
 rcases zs se s with rfl | ⟨rfl,rfl⟩ | ⟨rfl,dd⟩
 all_goals (first | (have x:=dd;clear x) | rcases zp pa n with rfl | ⟨rfl,rfl⟩ | ⟨rfl,dd⟩)
 all_goals (first | (have x:=dd;clear x) | rcases Decidable.em (lo<=f) with h1 | dd)
 all_goals (first | (have x:=dd;clear x) | rcases Decidable.em (f<=hi) with h2 | dd)
 all_goals (first | (have x:=dd;clear x) | rcases Decidable.em ((m:Int)<=vs) with h3 | dd)
 all_goals (first | (have x:=dd;clear x) | rcases zs sq e with rfl | ⟨rfl,rfl⟩ | ⟨rfl,dd⟩)
 all_goals (first | (have x:=dd;clear x) | rcases zf 0 g with rfl | hg)
 all_goals (cases B<;>first | (exfalso;have h:=aa eB;clear eB;simp_all [Jf]<;>omega) | clear eB)
 all_goals (go_enter func127,ntmps127;go_wp2;go_ret;exact ⟨rfl,(aJ.alloc aA _).alloc (by simp) _⟩)
abbrev sR (w:World) (G o:Nat) (se pa:Bool) (lo hi vs:Int) (sq jo:Bool):Prop:=w.cell? ⟨G,o,none⟩=some (.bool se)/\w.cell? ⟨G,o+1,none⟩=some (.bool pa)/\w.cell? ⟨G,o+2,none⟩=some (.I lo)/\w.cell? ⟨G,o+3,none⟩=some (.I hi)/\w.cell? ⟨G,o+4,none⟩=some (.I vs)/\w.cell? ⟨G,o+5,none⟩=some (.bool sq)/\w.cell? ⟨G,o+6,none⟩=some (.bool jo)
theorem sR.below {G o:Nat} {se pa:Bool} {lo hi vs:Int} {sq jo:Bool} (h:sR w G o se pa lo hi vs sq jo) (hb:Bw w w'):sR w' G o se pa lo hi vs sq jo:=
 ⟨af h.1 hb,af h.2.1 hb,af h.2.2.1 hb,af h.2.2.2.1 hb,af h.2.2.2.2.1 hb,af h.2.2.2.2.2.1 hb,af h.2.2.2.2.2.2 hb⟩
theorem vT (k:Nat) (nw:1<=k) (yC:k<=13) (se pa:Bool) (lo hi vs:Int) (sq jo:Bool) (s f e g:Int) (p q:Option Addr) (n m c d:Nat) (w:World) (hT:sR w 0 (k*7) se pa lo hi vs sq jo) (B:Bool) (eB:Hid (Jf se pa lo hi vs sq s f n m e g=B)) :
  Calls prog 60 #[X5 k s (.S p n c) f (.S q m d) e g] w fun r w'=>r=.returned (.bool B)/\Bw w w':=by
 have h1:=dE 1 k;have h2:(k:Int)<=13:=by omega
 have h3:(k:Int)<14:=by omega
 have h4:k<14:=by omega
 have h5:=dE 0 k;go_enter func60,ntmps60;go_wp2_with fail;obtain ⟨W,hW⟩:=ax (w.alloc (.cells #[.I k,.U s,.S p n c,.I f,.S q m d,.U e,.U g] 29));have bW:=ju hW;have hA:S6 W w.heap.size (.I k) (.U s) (.S p n c) (.I f) (.S q m d) (.U e) (.U g):=by rw [hW];simp [S6,go_sem]
 have hTW:=hT.below bW;rw [<-hW];clear hW hT
 go_region_held3 (fun w'=>S6 w' w.heap.size (.I k) (.U s) (.S p n c) (.I f) (.S q m d) (.U e) (.U g)/\sR w' 0 (k*7) se pa lo hi vs sq jo) (first | exact ⟨hA,hTW⟩ | exact ⟨hA1,hT1⟩)
  (first | (go_at_call 127;refine (Nf se pa lo hi vs sq jo k s f e g p q n m c d _ B eB).mono ?_;rintro r w1 ⟨rfl,bq⟩;have cR:Bw W w1:=(by first | exact bq | exact ah (Below.refl W.heap.size W).drew bq);have hA1:=hA.below cR;have hT1:=hTW.below cR))
 have b1:=ah bW cR;clear hA hTW hA1 hT1 bq cR bW;go_wp2;go_ret;exact ⟨rfl,b1⟩
theorem vS (k s f e g:Int) (p q:Option Addr) (n m c d:Nat) (w:World) (hk:k<1\/13<k) :
  Calls prog 60 #[X5 k s (.S p n c) f (.S q m d) e g] w fun r w'=>r=.returned (.bool false)/\Bw w w':=by
 have b0:∀ o:Obj,Bw w (w.alloc o):=fun o=>aJ.alloc aA _;by_cases h1:k<1;{
 have Hr:¬ (1:Int)<=k:=by omega
 have h1d:decide ((1:Int)<=k)=false:=by simp;omega
 go_enter func60,ntmps60;go_wp2_with fail
 go_region
 all_goals (
  go_wp2;go_ret;exact ⟨rfl,by first | exact b0 _ | exact (b0 _).drew⟩)}
 {
 have Hr:(1:Int)<=k:=by omega
 have h2':¬ k<=13:=by omega
 have h1d:decide ((1:Int)<=k)=true:=by simp;omega
 have h2d:decide (k<=(13:Int))=false:=by simp;omega
 go_enter func60,ntmps60;go_wp2_with fail
 go_region
 all_goals (
  go_wp2;go_ret;exact ⟨rfl,by first | exact b0 _ | exact (b0 _).drew⟩)}
theorem vD:∀ (l m:List Int),l.Nodup->(∀ x∈l,x∈m)->l.length<=m.length
 | [],m,_,_=>Nat.zero_le _
 | x::l,m,hd,hs=>by rw [List.nodup_cons] at hd;have hx:=hs x (by simp);have h:=vD l (m.erase x) hd.2 fun y hy=>(List.mem_erase_of_ne (fun e=>hd.1 (by rw [<-e];exact hy))).2 (hs y (by simp [hy]));rw [List.length_erase_of_mem hx] at h;have:=List.length_pos_of_mem hx;rw [List.length_cons];omega
theorem NH {α:Type} [DecidableEq α] (c:α) (s:List α):((du c s).map fun n=>n.length+1).sum=s.length+1:=by
 induction s with
 | nil=>rfl
 | cons x l ih=>
  rw [du];split;{rw [List.map_cons,List.sum_cons,ih,List.length_cons,List.length_nil];omega};{
 cases h:du c l with
 | nil=>have:=NC c l;rw [h] at this;simp at this
 | cons n ns=>
  rw [h] at ih;simp only [List.map_cons,List.sum_cons,List.length_cons] at ih ⊢;omega}
theorem Kv (C:Nat):∀ l:List Nat,(∀ x∈l,x<=C)->l.sum<=C*l.length
 | [],_=>Nat.zero_le _
 | x::l,h=>by have h1:=Kv C l fun y hy=>h y (by simp [hy]);have h2:=h x (by simp);rw [List.sum_cons,List.length_cons,Nat.mul_succ];omega
theorem nZ {p:List Int} (h:vp p=true):p.length<=136:=by
 cases p with
 | nil=>simp
 | cons c t=>
  rw [vp,st,Bool.and_eq_true,Bool.and_eq_true,decide_eq_true_eq,List.all_eq_true] at h;obtain ⟨-,h1,h2⟩:=h;have h3:=Kv 17 ((du 47 t).map fun n=>n.length+1) (fun x hx=>by obtain ⟨n,hn,rfl⟩:=List.mem_map.1 hx;have:=h2 n hn;simp only [iQ,Bool.and_eq_true,decide_eq_true_eq] at this;omega)
  rw [NH,List.length_map] at h3;rw [List.length_cons];omega

theorem mu.rde (h:mu B w v es):vO w v es:=by
 obtain ⟨p,c,rfl,-,-,hp⟩:=RT.form h;refine ⟨p,c,rfl,?_⟩;by_cases h0:es=[];{exact .inl h0};{obtain ⟨g,rfl⟩:=hp (List.length_pos_iff.2 h0);refine .inr ⟨g,0,rfl,fun i e hi=>?_⟩;obtain ⟨cc,-,⟨P,ec,tP⟩,hc,-⟩:=RT.at h hi;subst ec;exact ⟨by have:=hc 0 _ rfl;simpa using this,P,by have:=hc 1 _ rfl;simpa using this,tP.1⟩}
theorem mu.aE6 (h:mu B w v es):jJ w v es:=by
 obtain ⟨p,c,rfl,-,-,hp⟩:=RT.form h;refine ⟨p,c,rfl,?_⟩;by_cases h0:es=[];{exact .inl h0};{obtain ⟨g,rfl⟩:=hp (List.length_pos_iff.2 h0);refine .inr ⟨g,0,rfl,fun i e hi=>?_⟩;obtain ⟨cc,-,⟨P,ec,tP⟩,hc,-⟩:=RT.at h hi;subst ec;exact ⟨by have:=hc 0 _ rfl;simpa using this,P,by have:=hc 1 _ rfl;simpa using this,tP.1,tP.2.2⟩}
theorem dJ.Zv {ss:List aY} {Qs:List Value} (h:dJ B w v ss Qs):ic w v ss:=by
 have hz:(ss.zip Qs).length=ss.length:=by rw [List.length_zip,h.len];simp
 obtain ⟨p,c,e,-,-,hp⟩:=RT.form h.row;rw [hz] at e hp;subst e;refine ⟨p,c,rfl,?_⟩;by_cases h0:ss=[];{exact .inl h0};{obtain ⟨g,rfl⟩:=hp (List.length_pos_iff.2 h0);refine .inr ⟨g,0,rfl,fun i s hi=>?_⟩;have Bg:=(aN.1 hi).1;obtain ⟨Q,hQ⟩:∃ Q,Qs[i]?=some Q:=⟨_,aK (by rw [h.len];exact Bg)⟩;obtain ⟨cc,-,ec,hc,-⟩:=RT.at h.row (i:=i) (x:=(s,Q)) (by rw [List.getElem?_zip_eq_some];exact ⟨hi,hQ⟩);rw [show cc=_ from ec] at hc;exact ⟨by have:=hc 0 _ rfl;simpa using this,by have:=hc 1 _ rfl;simpa using this,Q,by have:=hc 2 _ rfl;simpa using this,(h.za i s Q hi hQ).aE6⟩}
open Go.Maps Go.Extern.Stop Go.Stop Go.Extern
theorem Xn (t:Value) (w:World):Calls prog 37 #[.nilIface,t] w fun e w'=>e=.returned (.bool false)/\w'=w:=by
 go_enter func37,ntmps37;go_wp2;go_ret;exact ⟨rfl,rfl⟩
theorem U6 (t:Addr) (w:World):(ReflectliteValue.unpack (.iface 79 (.pointer (some t)))).run prog w=.ok (.agg #[.pointer (some ⟨5,79,none⟩),.pointer (some ⟨w.heap.size,0,none⟩),.U 150]) (w.alloc (.cells #[.pointer (some t)] 79)):=by kernel_rfl
theorem U8 (a : Addr) (w : World) : (ReflectliteValue.methodAny (ReflectliteValue.valueError "reflectlite.Value.Type" 0) (fun t _ _ _ => ReflectliteType.toType t) #[.agg #[.pointer (some ⟨5, 79, none⟩), .pointer (some a), .U 150]]).run prog w = .ok (.iface 219 (.agg #[.pointer (some ⟨5, 79, none⟩)])) w := by kernel_rfl
theorem Zi (h : Value) (w : World) : (Go.method 440 219 (.agg #[h]) "Kind").run prog w = .ok (244, h) w := by kernel_rfl
theorem Zk (h : Value) (w : World) : (Go.method 440 219 (.agg #[h]) "Elem").run prog w = .ok (284, .agg #[h]) w := by kernel_rfl
theorem Zj (h : Value) (w : World) : (Go.method 440 219 (.agg #[h]) "Implements").run prog w = .ok (285, .agg #[h]) w := by kernel_rfl
theorem Zl (h : Value) (w : World) : (Go.method 440 219 (.agg #[h]) "AssignableTo").run prog w = .ok (282, .agg #[h]) w := by kernel_rfl
theorem Zn (w:World):((ReflectliteType.abiMethod fun t=>Functor.map (fun a:Nat=>Value.int IntKind.u8 (a:Int)) (Rtype.kind t)) #[.pointer (some ⟨5,79,none⟩)]).run prog w=.ok (.int .u8 22) w:=by kernel_rfl
theorem Zm (w:World):((ReflectliteType.abiMethod fun t=>Functor.map (fun a:Nat=>Value.int IntKind.u8 (a:Int)) (Rtype.kind t)) #[.pointer (some ⟨5,77,none⟩)]).run prog w=.ok (.int .u8 25) w:=by kernel_rfl
theorem Tc (a:Addr) (w:World):(ReflectliteValue.parts (.agg #[.pointer (some ⟨5,79,none⟩),.pointer (some a),.U 150])).run prog w=.ok (some (79,a,150)) w:=by kernel_rfl
theorem Va (a p : Addr) (W : World) (ha : W.cell? a = some (.pointer (some p))) : (ReflectliteValue.method (ReflectliteValue.valueError "reflectlite.Value.IsNil" 0) ReflectliteValue.isNil #[.agg #[.pointer (some ⟨5, 79, none⟩), .pointer (some a), .U 150]]).run prog W = .ok (.bool false) W := by
 show Sem.run _ (ReflectliteValue.parts (.agg #[.pointer (some ⟨5,79,none⟩),.pointer (some a),.U 150]) >>= _) _=_;rw [Sem.run_bind,Tc];simp [ReflectliteValue.isNil,loadVar,isAgg,underlying,underlying79,ha,Result.andThen]
theorem Zr (w:World):(ReflectliteType.method ReflectliteType.elem #[.agg #[.pointer (some ⟨5,79,none⟩)]]).run prog w=.ok (.iface 219 (.agg #[.pointer (some ⟨5,77,none⟩)])) w:=by kernel_rfl
theorem Zo (w : World) : (ReflectliteType.relation "Implements" ReflectliteType.implements_ #[.agg #[.pointer (some ⟨5, 77, none⟩)], .iface 219 (.agg #[.pointer (some ⟨5, 73, none⟩)])]).run prog w = .ok (.bool true) w := by kernel_rfl
theorem Ze (v:Value) (w:World):(ReflectliteType.typeOf #[.iface 77 v]).run prog w=.ok (.iface 219 (.agg #[.pointer (some ⟨5,77,none⟩)])) w:=by kernel_rfl
theorem Zt (w : World) : (ReflectliteType.relation "AssignableTo" ReflectliteType.assignableTo #[.agg #[.pointer (some ⟨5, 77, none⟩)], .iface 219 (.agg #[.pointer (some ⟨5, 77, none⟩)])]).run prog w = .ok (.bool true) w := by kernel_rfl
theorem U7 (C:Int) (w:World):(ReflectliteValue.unpack (.iface 77 (.agg #[.I C]))).run prog w=.ok (.agg #[.pointer (some ⟨5,77,none⟩),.pointer (some ⟨w.heap.size,0,none⟩),.U 153]) (w.alloc (.cells #[.I C] 77)):=by kernel_rfl
theorem Zq (w:World):(Rtype.elem? 79).run prog w=.ok (some 77) w:=by kernel_rfl
theorem Zh (p:Addr) (w:World):(ReflectliteValue.mk 77 p ReflectliteValue.flagAddr).run prog w=.ok (.agg #[.pointer (some ⟨5,77,none⟩),.pointer (some p),.U 409]) w:=by kernel_rfl
theorem Zp (a p : Addr) (W : World) (ha : W.cell? a = some (.pointer (some p))) : (ReflectliteValue.method (ReflectliteValue.valueError "reflectlite.Value.Elem" 0) ReflectliteValue.elem #[.agg #[.pointer (some ⟨5, 79, none⟩), .pointer (some a), .U 150]]).run prog W = .ok (.agg #[.pointer (some ⟨5, 77, none⟩), .pointer (some p), .U 409]) W := by
 show Sem.run _ (ReflectliteValue.parts (.agg #[.pointer (some ⟨5,79,none⟩),.pointer (some a),.U 150]) >>= _) _=_;rw [Sem.run_bind,Tc];simp [ReflectliteValue.elem,loadVar,isAgg,underlying,underlying79,ha,Result.andThen,Zq,Zh]
theorem Zg (a:Addr) (w:World):(ReflectliteValue.parts (.agg #[.pointer (some ⟨5,77,none⟩),.pointer (some a),.U 409])).run prog w=.ok (some (77,a,409)) w:=by kernel_rfl
theorem Zf (a:Addr) (w:World):(ReflectliteValue.parts (.agg #[.pointer (some ⟨5,77,none⟩),.pointer (some a),.U 153])).run prog w=.ok (some (77,a,153)) w:=by kernel_rfl
theorem Zs (w:World):(Rtype.directlyAssignable 77 77).run prog w=.ok true w:=by kernel_rfl
theorem ai1 (tb g:Nat) (C:Int) (old:Value) (W:World) (hb:W.cell? ⟨g,0,none⟩=some (.I C)) (ht:W.cell? ⟨tb,0,none⟩=some old) (hf:W.frozen? ⟨tb,0,none⟩=false):(ReflectliteValue.set #[.agg #[.pointer (some ⟨5,77,none⟩),.pointer (some ⟨tb,0,none⟩),.U 409],.agg #[.pointer (some ⟨5,77,none⟩),.pointer (some ⟨g,0,none⟩),.U 153]]).run prog W=.ok (.tuple #[]) (W.setCell ⟨tb,0,none⟩ (.I C)):=by
 show Sem.run _ (ReflectliteValue.parts (.agg #[.pointer (some ⟨5,77,none⟩),.pointer (some ⟨tb,0,none⟩),.U 409]) >>= _) _=_;rw [Sem.run_bind,Zg,Result.andThen_ok,Sem.run_bind];show ((Sem.run _ (ReflectliteValue.parts (.agg #[.pointer (some ⟨5,77,none⟩),.pointer (some ⟨g,0,none⟩),.U 153])) _).andThen _)=_;rw [Zf,Result.andThen_ok];have hl:(loadCells ⟨g,0,none⟩ 1).run prog W=.ok #[.I C] W:=run_loadCells_list W ⟨g,0,none⟩ [.I C] (fun j v hj=>by
  have e:j=0:=by have:=(aN.1 hj).1;simpa using this
  subst e;simp at hj;subst hj;exact hb)
 simp [ReflectliteValue.flagAddr,loadVar,isAgg,underlying,underlying77,hl,Result.andThen,Zs,storeVar,Value.cells,storeCells,Addr.add];rw [run_store prog W _ _ _ (by rfl)];simp [ht,hf]
theorem Xo (tb:Nat) (C:Int) (old:Value) (w:World) (hg:w.cell? ⟨1,0,none⟩=some (.iface 219 (.agg #[.pointer (some ⟨5,73,none⟩)]))) (Vz:w.cell? ⟨tb,0,none⟩=some old) (Wf:w.frozen? ⟨tb,0,none⟩=false) :
  Calls prog 37 #[.iface 77 (.agg #[.I C]),.iface 79 (.pointer (some ⟨tb,0,none⟩))] w fun ev w'=>ev=.returned (.bool true)/\w'=((((w.alloc (.cells #[.pointer (some ⟨tb,0,none⟩)] 79)).alloc (.cells #[.pointer (some ⟨5,79,none⟩),.pointer (some ⟨w.heap.size,0,none⟩),.U 150] 147)).alloc (.cells #[.pointer (some ⟨5,79,none⟩),.pointer (some ⟨w.heap.size,0,none⟩),.U 150] 147)).alloc (.cells #[.I C] 77)).setCell ⟨tb,0,none⟩ (.I C):=by
 have h6:=@run_callFunc_extern prog 95 _ (fun args=>ReflectliteValue.unpack (args.getD 0 (.tuple #[]))) func95 (by kernel_rfl) (by kernel_rfl) (by kernel_rfl) (by kernel_rfl);have h7 := @run_callFunc_extern prog 96 _ (ReflectliteValue.methodAny (ReflectliteValue.valueError "reflectlite.Value.Type" 0) (fun t _ _ _ => ReflectliteType.toType t)) func96 (by kernel_rfl) (by kernel_rfl) (by kernel_rfl) (by kernel_rfl);have h8 := @run_callFunc_extern prog 97 _ (ReflectliteValue.method (ReflectliteValue.valueError "reflectlite.Value.IsNil" 0) ReflectliteValue.isNil) func97 (by kernel_rfl) (by kernel_rfl) (by kernel_rfl) (by kernel_rfl);have h27:=@run_callFunc_extern prog 244 _ (ReflectliteType.abiMethod fun t=>do pure (.int .u8 (<-Rtype.kind t))) func244 (by kernel_rfl) (by kernel_rfl) (by kernel_rfl) (by kernel_rfl);have h37:=@run_callFunc_extern prog 284 _ (ReflectliteType.method ReflectliteType.elem) func284 (by kernel_rfl) (by kernel_rfl) (by kernel_rfl) (by kernel_rfl);have h38 := @run_callFunc_extern prog 285 _ (ReflectliteType.relation "Implements" ReflectliteType.implements_) func285 (by kernel_rfl) (by kernel_rfl) (by kernel_rfl) (by kernel_rfl);have h10:=@run_callFunc_extern prog 140 _ ReflectliteType.typeOf func140 (by kernel_rfl) (by kernel_rfl) (by kernel_rfl) (by kernel_rfl);have h35 := @run_callFunc_extern prog 282 _ (ReflectliteType.relation "AssignableTo" ReflectliteType.assignableTo) func282 (by kernel_rfl) (by kernel_rfl) (by kernel_rfl) (by kernel_rfl);have Yx := @run_callFunc_extern prog 141 _ (ReflectliteValue.method (ReflectliteValue.valueError "reflectlite.Value.Elem" 0) ReflectliteValue.elem) func141 (by kernel_rfl) (by kernel_rfl) (by kernel_rfl) (by kernel_rfl);have WI:=@run_callFunc_extern prog 142 _ ReflectliteValue.set func142 (by kernel_rfl) (by kernel_rfl) (by kernel_rfl) (by kernel_rfl);have tO:=Ze;have mA:=Zl;have a25:=Zt;have v25:=U7;have f6:=U6;have f7:=U8;have mK:=Zi;have mE:=Zk;have mI:=Zj;have k27:=Zn;have k25:=Zm;have e27:=Zr;have i25:=Zo;have n8:=Va ⟨w.heap.size,0,none⟩ ⟨tb,0,none⟩ ((w.alloc (.cells #[.pointer (some ⟨tb,0,none⟩)] 79)).alloc (.cells #[.pointer (some ⟨5,79,none⟩),.pointer (some ⟨w.heap.size,0,none⟩),.U 150] 147)) (by simp);have bj:1<w.heap.size:=World.block_lt_of_cell? w _ hg;have fU:((w.alloc (.cells #[.pointer (some ⟨tb,0,none⟩)] 79)).alloc (.cells #[.pointer (some ⟨5,79,none⟩),.pointer (some ⟨w.heap.size,0,none⟩),.U 150] 147)).cell? ⟨1,0,none⟩=some (.iface 219 (.agg #[.pointer (some ⟨5,73,none⟩)])):=by rw [World.cell?_alloc_lt _ _ ⟨1,0,none⟩ (by simp;omega),World.cell?_alloc_lt _ _ ⟨1,0,none⟩ bj];exact hg
 have htl:tb<w.heap.size:=World.block_lt_of_cell? w _ Vz;have el:=Zp ⟨w.heap.size,0,none⟩ ⟨tb,0,none⟩ (((w.alloc (.cells #[.pointer (some ⟨tb,0,none⟩)] 79)).alloc (.cells #[.pointer (some ⟨5,79,none⟩),.pointer (some ⟨w.heap.size,0,none⟩),.U 150] 147)).alloc (.cells #[.pointer (some ⟨5,79,none⟩),.pointer (some ⟨w.heap.size,0,none⟩),.U 150] 147)) (by rw [World.cell?_alloc_lt _ _ ⟨w.heap.size,0,none⟩ (by simp;omega)];simp);have st:=ai1 tb (w.heap.size+1+1+1) C old ((((w.alloc (.cells #[.pointer (some ⟨tb,0,none⟩)] 79)).alloc (.cells #[.pointer (some ⟨5,79,none⟩),.pointer (some ⟨w.heap.size,0,none⟩),.U 150] 147)).alloc (.cells #[.pointer (some ⟨5,79,none⟩),.pointer (some ⟨w.heap.size,0,none⟩),.U 150] 147)).alloc (.cells #[.I C] 77))
  (by rw [World.cell?_alloc_at _ _ _ _ (by simp)];rfl)
  (by rw [World.cell?_alloc_lt _ _ ⟨tb,0,none⟩ (by simp;omega),World.cell?_alloc_lt _ _ ⟨tb,0,none⟩ (by simp;omega),World.cell?_alloc_lt _ _ ⟨tb,0,none⟩ (by simp;omega),World.cell?_alloc_lt _ _ ⟨tb,0,none⟩ htl];exact Vz)
  (by rw [World.frozen?_alloc_old _ _ ⟨tb,0,none⟩ (by simp;omega),World.frozen?_alloc_old _ _ ⟨tb,0,none⟩ (by simp;omega),World.frozen?_alloc_old _ _ ⟨tb,0,none⟩ (by simp;omega),World.frozen?_alloc_old _ _ ⟨tb,0,none⟩ (Nat.ne_of_lt htl)];exact Wf)
 go_enter func37,ntmps37;go_wp2;refine wp_loop_rounds 1 ?_;rw [rounds_succ];go_wp2;go_ret;exact ⟨rfl,rfl⟩
theorem nH.news {a:Addr} (h:nH w (.S (some a) l.length c) l):(l.map (Value.int .u64)).length=l.length*1/\(∀ j u,(l.map (Value.int .u64))[j]?=some u->w.cell? (a.add j)=some u)/\(∀ u∈l.map (Value.int .u64),u.oneCell'=true):=by
 refine ⟨by simp,fun j u hu=>?_,fun u hu=>by obtain ⟨n,-,rfl⟩:=List.mem_map.1 hu;rfl⟩;have hj:j<l.length:=by have:=(aN.1 hu).1;simpa using this
 obtain ⟨p,c',e,hd⟩:=h;simp only [Value.slice.injEq] at e;obtain ⟨rfl,-,-⟩:=e;rcases hd with h0 | ⟨b,o,e1,hc⟩;{rw [h0] at hj;simp at hj};{simp only [Option.some.injEq] at e1;subst e1;rw [Addr.add_lit,hc j hj,<-hu];simp [List.getD_eq_getElem?_getD,hj]}
theorem Hd (p:Option Addr) (c n:Nat) (l:List Int) (en:Hid (l.length=n)) (w:World) (h:nH w (.S p n c) l) (hl:n<=1048576) :
  Calls prog 155 #[.S p n c] w fun e w'=>∃ p' c',e=.returned (.S p' n c')/\iK w.heap.size w' (.S p' n c') l/\Bw w w':=by
 have e:=aa en;subst e;obtain ⟨i,hi,mw,iT,jW⟩:=info_parts Tryz.infoU64;go_enter func155,ntmps155;have yz:w.ownsRow w.heap.size 23 1 (.S none 0 0) 0 []:=World.ownsRow_nil w _ _ 1;cases p with
 | none=>
  have e0:l=[]:=by obtain ⟨p,c',e,hd⟩:=h;simp only [Value.slice.injEq] at e;rcases hd with h0 | ⟨b,o,e1,hc⟩;{exact h0};{rw [e1] at e;simp at e}
  subst e0;have Ym:=dX (P:=prog) w w.heap.size 36 36 23 i 1 underlying36 hi _ _ _ c yz;go_wp2_with (at_builtin;refine Lib.wpList_append_run w rfl _ _ 36 36 rfl _ _ rfl rfl _ _ Ym ?_);go_ret;exact ⟨_,_,rfl,iK.nil _ _,Below.refl _ _⟩
 | some ad=>
  obtain ⟨n1,n2,n3⟩:=h.news;obtain ⟨v',w',hr,h1,h2,h3⟩:=rE w w.heap.size 36 i hi mw iT jW _ _ _ yz (ZT.nil w) ad l.length c (l.map (Value.int .u64)) n1 n2 n3 (by unfold maxLen;omega) (by omega) aA;go_wp2_with (at_builtin;refine Lib.wpList_append_run w rfl _ _ 36 36 rfl _ _ rfl rfl _ _ hr ?_);have ho:iK w.heap.size w' v' l:=⟨by simpa [ua] using h1,h3⟩;obtain ⟨p',c',rfl⟩:=ho.form;have hb:Bw w w':=⟨h2.os,h2.tape,h2.output,h2.size,fun k hk=>h2.block k hk (by simp [Value.ownBlock])⟩;clear h1 h2 h3 hr n1 n2 n3 h;go_wp2;go_ret;exact ⟨_,_,rfl,ho,hb⟩
theorem qB (v1 v2:Value) (l1 l2:List Int) (w:World) (h1:Rd w v1 l1) (h2:Rd w v2 l2) (Cd:l1.length<=2097152) (uW:l2.length<=2097152) :
  Calls prog 20 #[v1,v2] w fun e w'=>e=.returned (.bool (decide (l1=l2)))/\Bw w w':=by
 obtain ⟨p1,cd6,rfl,h1⟩:=h1;obtain ⟨p2,cd5,rfl,h2⟩:=h2;by_cases hlen:l1.length=l2.length;{
 have bL:((l1.length:Int) != (l2.length:Int))=false:=by simp;omega
 go_enter func20,ntmps20;go_wp2
 go_loopw [5] (fun i wr=>∃ k:Nat,k<=l1.length/\i=.I k/\l1.take k=l2.take k/\Bw w wr) (fun i _=>l1.length-(intOf i).toNat)
 case atStart=>exact ⟨0,Nat.zero_le _,rfl,rfl,Below.refl _ _⟩
 case round =>(
 obtain ⟨k,hk,rfl,ht,aR⟩:=hrel;have HT:Hid (l1.take k=l2.take k):=ht;clear ht;by_cases bj:k<l1.length;{
 rcases h1 with rfl | ⟨b1,o1,rfl,kH⟩;{simp at bj};{
 rcases h2 with rfl | ⟨b2,o2,rfl,jF⟩;{simp at hlen;subst hlen;simp at bj};{
 have tI:k<l2.length:=by omega
 have g1:wr.cell? ⟨b1,o1+k,none⟩=some (.int .u8 (l1.getD k 0)):=(aR.cell (p:=⟨b1,o1+k,none⟩) (World.block_lt_of_cell? w _ (kH k bj))).trans (kH k bj);have g2:wr.cell? ⟨b2,o2+k,none⟩=some (.int .u8 (l2.getD k 0)):=(aR.cell (p:=⟨b2,o2+k,none⟩) (World.block_lt_of_cell? w _ (jF k tI))).trans (jF k tI);have i1:(k:Int)<(l1.length:Int):=by omega
 have i2:(k:Int)<(l2.length:Int):=by omega
 have HL:Hid (l1.length=l2.length):=hlen;clear kH jF hlen;by_cases hx:l1[k]=l2[k];{
 have hb:(l1[k] != l2[k])=false:=by simp only [bne_eq_false_iff_eq];exact hx
 have HX:Hid (l1[k]?.getD 0=l2[k]?.getD 0):=by show _=_;simpa [bj,tI] using hx
 clear hx;go_wp2
 go_quiet (fail)
 go_wp2;go_roundw
 case rel=>exact ⟨k+1,by omega,by go_num,Au l1 l2 k bj tI HT.out HX.out,below_drewN aR _⟩
 case measure=>simp [intOf];omega}
 {
 have hb:(l1[k] != l2[k])=true:=by simp only [bne_iff_ne];exact hx
 have HF:Hid (decide (l1=l2)=false):=by show _=_;simp only [decide_eq_false_iff_not];intro e;apply hx;simp [e]
 clear hx;go_wp2
 go_quiet (fail)
 go_wp2;go_ret;exact ⟨by rw [HF.out];rfl,below_drewN aR _⟩}}}};{
 have fL:k=l1.length:=by omega
 have HF:Hid (decide (l1=l2)=true):=by have:=HT.out;rw [fL,List.take_length,hlen,List.take_length] at this;show _=_;simp [this]
 subst fL;clear HT hlen;go_wp2;go_ret;exact ⟨by rw [HF.out];rfl,aR⟩})}
 {
 have bL:((l1.length:Int) != (l2.length:Int))=true:=by simp;omega
 have FN:decide (l1=l2)=false:=by simp only [decide_eq_false_iff_not];intro e;apply hlen;rw [e]
 rw [FN];go_enter func20,ntmps20;go_wp2;go_ret;exact ⟨rfl,Below.refl _ _⟩}
theorem own:ownKnob Tryz.prog.godebug=none:=by kernel_rfl
theorem laidOut:laidOutB Tryz.prog=true:=by kernel_rfl
theorem uB {H:Type} {enc:TypeId × Value->H} {a:Assume} {C:Checked} {os:Os} {f:FuncId} {fn:Func} {s:ChangeSpec} {conds:List PathCond} {apart fresh handsOn again:Bool} {X:World->Array Value->Prop}
  (hX:∀ (w w':World) (args:Array Value),w.heap=w'.heap->X w args->X w' args)
  (own:ownKnob C.prog.godebug=none) (started:os.Started) (Vg:C.prog.inits.idxOf? f=none) (hfn:C.prog.funcs[f]?=some fn)
  (witness:∃ (w:World) (tape:Tape) (i:Input),w.os=os/\(w.forCall tape i).Shaped C.prog/\i.vars=[]/\Input.okWide C.prog (w.forCall tape i) .any w.heap.size f i ∧
   ((s.pre enc C.prog fn conds apart (w.forCall tape i).memory i.args/\X (w.forCall tape i).memory i.args)/\sizedMet enc C.prog fn (OpenSpec.ofChange s) apart (w.forCall tape i).memory i.args)/\a.holds C.prog (lone (Frame.enter C.prog f i.args .normal) [] (w.forCall tape i)))
  (NL:∀ (W:World) (base:Nat) (args:Array Value) (ds gs:List (DataW H)) (before:List MemPlace),
   (∀ (j:Nat) t v,fn.params[j]?=some t->args[j]?=some v->Value.okWide C.prog W .any base t v) →
   DataW.Whole enc C.prog fn.params.toList s.vars apart W args.toList ds gs before →
   X W args->W.ShapedOpen C.prog →
   Calls C.prog f args W fun e W'=>∃ v,e=.returned v/\s.post enc C.prog fn apart fresh handsOn again W args v W') :
  ReturnsInHanded a C os f .any (fun w args=>(s.pre enc C.prog fn conds apart w args/\X w args)/\sizedMet enc C.prog fn (OpenSpec.ofChange s) apart w args) (s.post enc C.prog fn apart fresh handsOn again):=by
 refine returnsInHanded_of_calls own started Vg witness ?_;intro w tape i _ Z9 _ iJ Q4 aM6;obtain ⟨_,_,_,fn',aN5,_,_,_,_,oE⟩:=iJ;have e:fn'=fn:=Option.some.inj (aN5.symm.trans hfn);subst e;obtain ⟨⟨⟨ds,gs,before,hw,hc⟩,hx⟩,hz⟩:=Q4;refine (NL (w.forCall tape i) w.heap.size i.args ds gs before oE (DataW.Whole.of_heap (w':=w.forCall tape i) (by rfl) hw) (hX _ _ _ (by rfl) hx) Z9).mono fun e W' ⟨v,he,hp⟩=>?_;subst he;exact ChangeSpec.post_blind hp
theorem uo (h:w.ShapedOpen Tryz.prog):∃ m,w.cell? ⟨2,0,none⟩=some (.I m):=
 cell_of_shapedOpen_int (t:=3) (zero:=#[.I 0]) h (of_decide_eq_true (by kernel_rfl)) (by kernel_rfl) rfl (by kernel_rfl) (by kernel_rfl) Tryz.underlying3
theorem qX:Tryz.prog.cellsOf 101=7:=by kernel_rfl
theorem Jz:Tryz.prog.cellsOf 3=1:=by kernel_rfl
theorem Gp:Tryz.prog.cellsOf 4=1:=by kernel_rfl
theorem Ar {H:Type} {enc:TypeId × Value->H} {P:Program} {base:Nat} {spare:Nat->Bool} {held:Bool} {t:TypeId} {f0 f1 f2 f3 f4 f5 f6:Field} {fuel:Nat} {cs:List Value} {x:DataW H × List MemPlace} (ht:P.underlying t=some (.struct #[f0,f1,f2,f3,f4,f5,f6])) (h:DataW.trod enc P w base spare held fuel t cs=some x) :
  ∃ y0 y1 y2 y3 y4 y5 y6 n,x.1=.agg [y0.1,y1.1,y2.1,y3.1,y4.1,y5.1,y6.1]/\cs.length=P.cellsOf t ∧
   DataW.trod enc P w base spare held n f0.type ((cs.drop f0.offset).take (P.cellsOf f0.type))=some y0/\DataW.trod enc P w base spare held n f1.type ((cs.drop f1.offset).take (P.cellsOf f1.type))=some y1 ∧
   DataW.trod enc P w base spare held n f2.type ((cs.drop f2.offset).take (P.cellsOf f2.type))=some y2/\DataW.trod enc P w base spare held n f3.type ((cs.drop f3.offset).take (P.cellsOf f3.type))=some y3 ∧
   DataW.trod enc P w base spare held n f4.type ((cs.drop f4.offset).take (P.cellsOf f4.type))=some y4/\DataW.trod enc P w base spare held n f5.type ((cs.drop f5.offset).take (P.cellsOf f5.type))=some y5 ∧
   DataW.trod enc P w base spare held n f6.type ((cs.drop f6.offset).take (P.cellsOf f6.type))=some y6:=by
 obtain ⟨xs,n,_,rfl,hl,hlen,hf⟩:=DataW.trod_struct ht h
 match xs,hlen with
 | [y0,y1,y2,y3,y4,y5,y6],_=>exact ⟨y0,y1,y2,y3,y4,y5,y6,n,rfl,hl,by simpa using hf 0 f0 rfl,by simpa using hf 1 f1 rfl,by simpa using hf 2 f2 rfl,by simpa using hf 3 f3 rfl,by simpa using hf 4 f4 rfl,by simpa using hf 5 f5 rfl,by simpa using hf 6 f6 rfl⟩
theorem sE {n:Nat} {cs:List Value} {x:DataW Unit × List MemPlace} {se pa sq jo:Bool} {lo hi vs:Int} (h:DataW.trod (fun _=>()) Tryz.prog w 0 (fun _=>true) false n 101 cs=some x) (hx:x.1=.agg [.lit (.bool se),.lit (.bool pa),.lit (.I lo),.lit (.I hi),.lit (.I vs),.lit (.bool sq),.lit (.bool jo)]) :
  cs=[.bool se,.bool pa,.I lo,.I hi,.I vs,.bool sq,.bool jo]:=by
 obtain ⟨y0,y1,y2,y3,y4,y5,y6,m,e,hl,h0,h1,h2,h3,h4,h5,h6⟩:=Ar Tryz.underlying101 h;rw [qX] at hl;obtain ⟨x0,x1,x2,x3,x4,x5,x6,rfl⟩:∃ x0 x1 x2 x3 x4 x5 x6,cs=[x0,x1,x2,x3,x4,x5,x6]:=by
  match cs,hl with
  | [a,b,c,d,e,f,g],_=>exact ⟨a,b,c,d,e,f,g,rfl⟩
 simp [Gp,Jz] at h0 h1 h2 h3 h4 h5 h6;obtain ⟨b0,e0,f0⟩:=DataW.trod_bool Tryz.underlying4 h0;obtain ⟨b1,e1,f1⟩:=DataW.trod_bool Tryz.underlying4 h1;obtain ⟨b2,e2,f2,_⟩:=DataW.trod_int Tryz.underlying3 h2;obtain ⟨b3,e3,f3,_⟩:=DataW.trod_int Tryz.underlying3 h3;obtain ⟨b4,e4,f4,_⟩:=DataW.trod_int Tryz.underlying3 h4;obtain ⟨b5,e5,f5⟩:=DataW.trod_bool Tryz.underlying4 h5;obtain ⟨b6,e6,f6⟩:=DataW.trod_bool Tryz.underlying4 h6;rw [e,f0,f1,f2,f3,f4,f5,f6] at hx;simp at hx e0 e1 e2 e3 e4 e5 e6;obtain ⟨rfl,rfl,rfl,rfl,rfl,rfl,rfl⟩:=hx;subst e0 e1 e2 e3 e4 e5 e6
 rfl
def yN (P:Program) (md:Region.Mode) (ops:Array Oper) (Q:Exit->Act->World->Prop) (S:World->Prop) (x:Nat):Nat->Array Bool->Act->World->Prop
 | 0,l,a,w=>Region.ready md ops l=[]/\Q .normal a w
 | n+1,l,a,w=>(Region.ready md ops l=[]->Q .normal a w)/\∀ i∈Region.ready md ops l,wpOp P ops Q i (fun a' w'=>(i=x\/S w')/\yN P md ops Q S x n (l.setIfInBounds i true) a' w') a w
section
variable {P:Program} {md:Region.Mode} {ops:Array Oper} {Q:Exit->Act->World->Prop} {S:World->Prop} {x:Nat}
theorem GG:∀ (n:Nat) (l:Array Bool) (a:Act) (w:World),yN P md ops Q S x n l a w->wpAny P md ops Q n l a w
 | 0,_,_,_,h=>h
 | n+1,_,_,_,h=>⟨h.1,fun i hi=>wpOp_mono (fun a' w' k=>GG n _ a' w' k.2) (h.2 i hi)⟩
theorem Io (hi:ops[i]?=some oi) (hs:∀ (j:Nat) (o:Oper) cs b,ops[j]?=some o->o.op≠.select cs b) (hQ:∀ c a w,Q (.panic c) (a.put oi.dst v) w->Q (.panic c) a w) (hx:∀ o,ops[x]?=some o->∃ e∈o.after,Region.binds md e=true/\e.on=i) :
  ∀ (n:Nat) (l:Array Bool) (a:Act) (w:World),(∀ j oj,ops[j]?=some oj->j≠i->l.getD j true=false->(∀ e∈oj.after,Region.binds md e=true->e.on≠i)->oi.apart ops oj=true)->i∈Region.ready md ops l->YieldsIf P ops S oi v a->S w->yN P md ops Q S x n (l.setIfInBounds i true) (a.put oi.dst v) w->yN P md ops Q S x (n+1) l a w:=by
 intro n
 induction n with
 | zero=>
  intro l a w _ hr hy hS H;refine ⟨fun e=>(by rw [e] at hr;cases hr),fun j hj=>?_⟩;by_cases e:j=i;{rw [e];exact hy.wpOp hi hS ⟨.inr hS,H⟩};{have k:=ready_mono hj e;rw [H.1] at k;cases k}
 | succ n ih=>
  intro l a w hf hr hy hS H;refine ⟨fun e=>(by rw [e] at hr;cases hr),fun j hj=>?_⟩;by_cases e:j=i;{rw [e];exact hy.wpOp hi hS ⟨.inr hS,H⟩};{
 obtain ⟨ac4,oj,hoj,lK⟩:=mem_ready.1 hj;have jS:∀ z∈oj.after,Region.binds md z=true->z.on≠i:=fun z hz hb hzi=>by have k1:=lK z hz hb;have k0:=(mem_ready.1 hr).1;rw [hzi] at k1;by_cases hl:i<l.size;{simp [hl] at k0 k1;rw [k0] at k1;cases k1};{simp [Array.getElem?_eq_none (Nat.le_of_not_lt hl)] at k1}
 have hjx:j≠x:=fun ex=>by subst ex;obtain ⟨z,hz,hb,hzi⟩:=hx oj hoj;exact jS z hz hb hzi
 refine wpOp_mono (fun a' w' k=>?_) (wpOp_putIf hoj (hf j oj hoj e ac4 jS) (fun cs b=>hs i oi cs b hi) (fun cs b=>hs j oj cs b hoj) hQ hy (H.2 j (ready_mono hj e)));have Cg:S w':=k.2.1.resolve_left hjx;refine ⟨.inr Cg,ih (l.setIfInBounds j true) a' w' (fun k' ok hk hki JX hn=>hf k' ok hk hki ?_ hn) (ready_mono hr (Ne.symm e)) k.1 Cg ?_⟩;{by_cases hjk:j=k';{rw [<-hjk];exact ac4};{rw [getD_set_ne true hjk] at JX;exact JX}};{rw [Array.setIfInBounds_comm _ _ e];exact k.2.2}}
theorem rA {n:Nat} {l:Array Bool} (h:Q .normal a w) (hr:Region.ready md ops l=[]:=by kernel_rfl):yN P md ops Q S x n l a w:=by
 cases n with
 | zero=>exact ⟨hr,h⟩
 | succ n=>exact ⟨fun _=>h,by rw [hr];simp⟩
theorem fk (i:Nat) {n:Nat} {l:Array Bool} {o:Oper}
  (h:∀ K':Act->World->Prop,Shut (∀ a w,(i=x\/S w)->((i=x\/S w)->yN P md ops Q S x n (l.setIfInBounds i true) a w)->K' a w)->if Region.wanted o (yielded ops a.tmps)=true then Oper.wp P o a w K' Q else K' (a.put o.dst undef) w)
  (hi:ops[i]?=some o:=by (simp only [List.getElem?_toArray,List.getElem?_cons_succ,List.getElem?_cons_zero];rfl)) (hr:Region.ready md ops l=[i]:=by kernel_rfl):yN P md ops Q S x (n+1) l a w:=by
 refine ⟨fun e=>?_,fun j hj=>?_⟩;{rw [hr] at e;cases e};{rw [hr] at hj;obtain rfl:=List.mem_singleton.1 hj;exact wpOp_step hi (fun K' hK=>h K' (fun a w hS hW=>hK a w ⟨hS,hW hS⟩))}
def TE (P:Program) (md:Region.Mode) (ops:Array Oper) (Q:Exit->Act->World->Prop) (S:World->Prop) (x:Nat) (l:Array Bool) (i:Nat) (a a':Act):Prop:=∀ n w,S w->yN P md ops Q S x n (l.setIfInBounds i true) a' w->yN P md ops Q S x (n+1) l a w
theorem Y5 {v:Value} {l:Array Bool} {a a':Act}
  (hi:ops[i]?=some oi:=by (simp only [List.getElem?_toArray,List.getElem?_cons_succ,List.getElem?_cons_zero];rfl))
  (hs:Region.noSelect ops=true:=by kernel_rfl) (hf:Region.free md ops l i=true:=by kernel_rfl) (hr:(Region.ready md ops l).contains i=true:=by kernel_rfl)
  (hx:((ops[x]?.map fun o=>o.after.toList.any fun e=>Region.binds md e&&e.on==i).getD false)=true:=by kernel_rfl)
  (hQ:∀ c a w,Q (.panic c) (a.put oi.dst v) w->Q (.panic c) a w:=by exact fun _ _ _ h=>h) (hg:Region.wanted oi (yielded ops a.tmps)=true:=by rfl)
  (hy:∀ w,S w->(execOp a.eval oi).run P w=.ok (.value v) w:=by (intro w' qi;(try dsimp only at qi);go_simp;try with_reducible rfl)) (ha:a.put oi.dst v=a':=by (simp only [Act.put,xa,xb,xc];rfl)):TE P md ops Q S x l i a a':=
 fun n w hS h=>Io hi (Region.noSelect_spec hs) hQ (fun o ho=>by rw [ho] at hx;simp only [Option.map_some,Option.getD_some,List.any_eq_true,Bool.and_eq_true,beq_iff_eq] at hx;obtain ⟨e,he,h1,h2⟩:=hx;exact ⟨e,by simpa using he,h1,h2⟩) n l a w (Region.free_spec hi hf) (by simpa using hr) (Or.inl ⟨hg,hy⟩) hS (ha▸h)
theorem tEo (i:Nat) {v:Value} {n:Nat} {l:Array Bool} {a a':Act} (hS:S w) (h:yN P md ops Q S x n (l.setIfInBounds i true) a' w)
  (hi:ops[i]?=some oi:=by (simp only [List.getElem?_toArray,List.getElem?_cons_succ,List.getElem?_cons_zero];rfl)) (hr:Region.ready md ops l=[i]:=by kernel_rfl) (hg:Region.wanted oi (yielded ops a.tmps)=true:=by rfl)
  (hy:∀ w,S w->(execOp a.eval oi).run P w=.ok (.value v) w:=by (intro w' qi;(try dsimp only at qi);go_simp;try with_reducible rfl)) (ha:a.put oi.dst v=a':=by (simp only [Act.put,xa,xb,xc];rfl)):yN P md ops Q S x (n+1) l a w:=by
 refine ⟨fun e=>(by rw [hr] at e;cases e),fun j hj=>?_⟩;rw [hr] at hj;obtain rfl:=List.mem_singleton.1 hj;have hY:YieldsIf P ops S oi v a:=Or.inl ⟨hg,hy⟩;exact hY.wpOp hi hS ⟨.inr hS,ha▸h⟩
theorem JQ (i:Nat) {n:Nat} {l:Array Bool} (hS:S w) (h:yN P md ops Q S x n (l.setIfInBounds i true) a' w) (t:TE P md ops Q S x l i a a':=by exact Y5):yN P md ops Q S x (n+1) l a w:=t _ _ hS h
theorem Tb (i0 i1 i2 i3:Nat) {n:Nat} {l:Array Bool} {a0 a1 a2 a3 a4:Act} (hS:S w) (h:yN P md ops Q S x n ((((l.setIfInBounds i0 true).setIfInBounds i1 true).setIfInBounds i2 true).setIfInBounds i3 true) a4 w) (x0:TE P md ops Q S x l i0 a0 a1:=by exact Y5) (x1:TE P md ops Q S x (l.setIfInBounds i0 true) i1 a1 a2:=by exact Y5) (x2:TE P md ops Q S x ((l.setIfInBounds i0 true).setIfInBounds i1 true) i2 a2 a3:=by exact Y5) (x3:TE P md ops Q S x (((l.setIfInBounds i0 true).setIfInBounds i1 true).setIfInBounds i2 true) i3 a3 a4:=by exact Y5):yN P md ops Q S x (n+4) l a0 w:=x0 _ _ hS (x1 _ _ hS (x2 _ _ hS (x3 _ _ hS h)))
theorem G8 {i n:Nat} {l:Array Bool} (hK:Shut (∀ a w,(i=x\/S w)->((i=x\/S w)->yN P md ops Q S x n l a w)->K a w)) (hS:S w) (h:S w->yN P md ops Q S x n l a' w) (ha:a=a':=by ((try simp only [Act.put,xa,xb,xc]);rfl)):K a w:=hK.out _ _ (.inr hS) fun _=>ha▸h hS
theorem oGX {n:Nat} {l:Array Bool} (hK:Shut (∀ a w,(x=x\/S w)->((x=x\/S w)->yN P md ops Q S x n l a w)->K a w)) (h:yN P md ops Q S x n l a w):K a w:=hK.out _ _ (.inl rfl) fun _=>h
theorem kP (x:Nat) {id:Nat} (hS:S w.drew) (h:S w.drew->yN P .any ops Q S x ops.size (Array.replicate ops.size false) a w.drew) (hm:P.follows .mixedOrders=true:=by kernel_rfl):(Code.region id ops true).wp P Q a w:=
 wp_region_any hm (GG _ _ _ _ (h hS))
end
end Go.Proofs.YtcfcafeciggjeaaGreatDoor
