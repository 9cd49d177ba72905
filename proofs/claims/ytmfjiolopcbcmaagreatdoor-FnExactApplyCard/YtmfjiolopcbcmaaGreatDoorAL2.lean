import Derived.Test.YtmfjiolopcbcmaaGreatDoorAL1
import Derived.LaidHandle
import Derived.LaidLaws
import Derived.Stop.LaidErr
namespace Go.Proofs.YtmfjiolopcbcmaaGreatDoor
set_option linter.unusedVariables false
set_option linter.unusedSimpArgs false
set_option maxRecDepth 100000
open Go.ChangeShapes Go.WideShapes Go.ChangeAt Go.RowKit Go.Deep
variable {W:World}
namespace apRow
def mu : List (String × DataW Unit) := [("unicode/utf8.acceptRanges", Rows.laid_unicode_utf8_acceptRanges), ("loop.example/s02132/impl.forms", Rows.laid_loop_example_s02132_impl_forms), ("unicode/utf8.first", Rows.laid_unicode_utf8_first)]
theorem et : Tryz.prog.globalNamed "errors.errorType" = some 0 := by kernel_rfl
theorem rt : (Tryz.prog.cutTypes.find? (·.1 == "internal/reflectlite.rtype")).map (·.2) = some 205 := by kernel_rfl
theorem Ub:((List.range 331).filter fun t=>Tryz.prog.rowNamed t [101,114,114,111,114])=[64]:=by kernel_rfl
theorem size:Tryz.prog.types.size=331:=by kernel_rfl
theorem parts {W: World} (h : laidMetH Tryz.prog Rows.fnExactApplyRow.laid W) : laidMet Tryz.prog mu W ∧ handlesMet Tryz.prog [("errors.errorType", Rows.laid_errors_errorType)] W := h
theorem er (h:laidMetH Tryz.prog Rows.fnExactApplyRow.laid W):W.cell? ⟨0,0,none⟩=some (.iface 205 (.agg #[.pointer (some ⟨5,64,none⟩)])):=by
 obtain ⟨name,u,ty,e1,e2,e3,e4,e5⟩:=(parts h).2 _ (List.mem_singleton.2 rfl);have en:name=[101,114,114,111,114]:=(Option.some.inj e1).symm;subst en;obtain rfl:=Option.some.inj (rt.symm.trans e2);have hm:ty∈(List.range 331).filter fun t=>Tryz.prog.rowNamed t [101,114,114,111,114]:=List.mem_filter.2 ⟨List.mem_range.2 (by rw [<-size];exact e3),e4⟩;rw [Ub] at hm;obtain rfl:=List.mem_singleton.1 hm;have hh:typeHandle Tryz.prog 64=.pointer (some ⟨5,64,none⟩):=by kernel_rfl
 rw [hh] at e5;simpa using World.var?_cell et e5 0
theorem Fm (h:laidMet Tryz.prog mu W) (k:Nat) (hk:k<14) (se pa sq jo:Bool) (lo hi vs:Int)
  (hd0:∀ ds:List (DataW Unit),Rows.laid_loop_example_s02132_impl_forms=.agg ds->ds[k]?=some (.agg [.lit (.bool se),.lit (.bool pa),.lit (.int .i64 lo),.lit (.int .i64 hi),.lit (.int .i64 vs),.lit (.bool sq),.lit (.bool jo)])) :
  ta W 1 (k*7) se pa lo hi vs sq jo:=by
 have h2 : laidMet Tryz.prog (("loop.example/s02132/impl.forms", Rows.laid_loop_example_s02132_impl_forms) :: [("unicode/utf8.first", Rows.laid_unicode_utf8_first)]) W := laidMet.tail h;obtain ⟨ps,⟨g,t,cs,fuel,p,q,hg,ht,hv,hd,_,_⟩,_,_⟩:=h2;obtain rfl := Option.some.inj ((show Tryz.prog.globalNamed "loop.example/s02132/impl.forms" = some 1 by kernel_rfl).symm.trans hg);obtain rfl:=Option.some.inj ((show (Tryz.prog.globals[1]?).map (·.type)=some 179 by kernel_rfl).symm.trans ht);obtain ⟨xs,m,_,ex,xZ,hl,ij⟩:=DataW.trod_array Tryz.underlying179 hd;have hE:=ij k hk;rw [vQ,aH (by omega)] at hE;have e3:=hd0 _ (Prod.mk.inj ex).1;rw [List.getElem?_map,aH (by omega:k<xs.length)] at e3;simp only [Option.map_some,Option.some.injEq] at e3;have Qb:=Al hE e3;have bD:∀ j v,[Value.bool se,.bool pa,.int .i64 lo,.int .i64 hi,.int .i64 vs,.bool sq,.bool jo][j]?=some v->j<7->W.cell? ⟨1,k*7+j,none⟩=some v:=fun j v hj hj7=>by rw [World.var?_cell hg hv (k*7+j),<-hj,<-Qb,List.getElem?_take,if_pos hj7,List.getElem?_drop];simp
 exact ⟨by simpa using bD 0 _ rfl (by omega),bD 1 _ rfl (by omega),bD 2 _ rfl (by omega),bD 3 _ rfl (by omega),bD 4 _ rfl (by omega),bD 5 _ rfl (by omega),bD 6 _ rfl (by omega)⟩
theorem XB (h:laidMet Tryz.prog mu W):Tab W:=by
 intro k h1 h2;rcases kinds h1 h2 with rfl | rfl | rfl | rfl | rfl | rfl | rfl | rfl | rfl | rfl | rfl | rfl | rfl<;>exact Fm h _ (by omega) _ _ _ _ _ _ _ (fun ds oC=>by
  have e:=DataW.agg.inj oC;rw [<-e]
  rfl)
def SR (w:World):World:=
 { w with heap:=w.heap.modify 0 fun
   | .cells _ t frozen=>.cells #[.iface 205 (.agg #[.pointer (some ⟨5,64,none⟩)])] t frozen
   | o=>o }
theorem Ht (os:Os) (args:Array Value):laidMetH Tryz.prog Rows.fnExactApplyRow.laid (((SR (World.holding Tryz.prog os ⟨#[],#[],[]⟩)).layVars Tryz.prog mu).forCall (fun _ _=>0) ⟨#[],args,[]⟩).memory:=by
 refine laidMetH_of_parts ?_ (by kernel_rfl);have e1:(mu.filter fun x=>(mu.map (·.1)).contains x.1)=mu:=List.filter_eq_self.2 fun x hx=>List.contains_iff_mem.2 (List.mem_map.2 ⟨x,hx,rfl⟩);have e2:(mu.filter fun x=>!(mu.map (·.1)).contains x.1)=[]:=List.filter_eq_nil_iff.2 fun x hx=>by rw [List.contains_iff_mem.2 (List.mem_map.2 ⟨x,hx,rfl⟩)];simp
 have h:laidMet Tryz.prog mu _:=laidMet_layVars (w0:=SR (World.holding Tryz.prog os ⟨#[],#[],[]⟩)) (mu.map (·.1)) [] (by rw [e1]) (by rw [e1];kernel_rfl) (by rw [e1];kernel_rfl) (by rw [e2];exact LaidIn.none);exact (show laidMet Tryz.prog mu _ from h.of_heap (by simp [World.memory,World.forCall,Input.heap]))
theorem lifted (os:Os) (started:os.Started) (H:Type) (enc:TypeId × Value->H) :
  ReturnsInHanded {} Tryz.checked os 3 .any (fun w args=>(Rows.fnExactApplySpec.pre enc Tryz.prog Tryz.f3 Rows.fnExactApplyRow.domain false w args/\laidMetH Tryz.prog Rows.fnExactApplyRow.laid w)/\sizedMet enc Tryz.prog Tryz.f3 (OpenSpec.ofChange Rows.fnExactApplySpec) false w args)
   (Rows.fnExactApplySpec.post enc Tryz.prog Tryz.f3 false true false false):=by
 refine CO (C:=Tryz.checked) (X:=fun w _=>laidMetH Tryz.prog Rows.fnExactApplyRow.laid w) (fun _ _ _ hh h=>h.of_heap hh) own started (by kernel_rfl) Tryz.func3
  (ChangeSpec.witness_shaped (enc:=enc) (C:=Tryz.checked) (os:=os) (X:=fun w _=>laidMetH Tryz.prog Rows.fnExactApplyRow.laid w) false ((SR (World.holding Tryz.prog os ⟨#[],#[],[]⟩)).layVars Tryz.prog mu) #[.agg #[.int .u64 0,.int .u64 0,.int .u64 0,.int .i64 0,.slice none 0 0,.slice none 0 0],.agg #[.int .i64 0,.int .u64 0,.slice none 0 0,.int .i64 0,.slice none 0 0,.int .u64 0,.int .u64 0]] 8 (World.layVars_os _ _ _)
   (World.shaped_of_ZipB (by kernel_rfl) (by kernel_rfl)) (by kernel_rfl) (by kernel_rfl) (by kernel_rfl)
   (Ht os _)) ?_
 intro W base args ds gs before RF hW hL hsh;have sk:∀ (j:Nat) t v,Tryz.f3.params[j]?=some t->args[j]?=some v->Value.okWide Tryz.prog W .any base t v:=RF;have hW':=hW;obtain ⟨p,q,hA0,Zj,rfl,Sc,bf⟩:=hW;have hA:DataW.TrodAll enc Tryz.prog W 0 (fun _=>true) true Tryz.f3.params.toList args.toList ds p:=hA0;have hV : DataW.TrodVars enc Tryz.prog W (fun _ => true) ["loop.example/s02132/impl.forms"] gs q := Zj;rw [Tryz.params3] at hA sk;obtain ⟨v0,vs0,d0,ds0,p0,q0,be5,rfl,rfl,h0,r0⟩:=trodAll_cons hA;obtain ⟨v1,vs1,d1,ds1,p1,q1,rfl,rfl,rfl,h1,r1'⟩:=trodAll_cons r0;obtain ⟨rfl,rfl,rfl⟩:=trodAll_nil r1';obtain rfl:args=#[v0,v1]:=by cases args;simp_all
 obtain ⟨gg,tt,cs,fuel,dg,pg,rfl,hg,ht,bz5,hd,hq⟩:=trodVars_one hV;have k0:=h0;have kk1:=h1;have lt0:∀ x∈p0,x.block<W.heap.size:=by obtain ⟨m,hm⟩:=k0;exact DataW.trod_lt m _ _ _ hm
 have lt1:∀ x∈p1,x.block<W.heap.size:=by obtain ⟨m,hm⟩:=kk1;exact DataW.trod_lt m _ _ _ hm
 obtain ⟨e,g,x,t,pp,pq,ss,ns,c,c',rfl,l1,l2,r1,r2,k1,k2,-,-,g0,x0⟩:=BG (sk 0 26 v0 rfl rfl) h0;obtain ⟨K,S,F,E,G,po,pv,P,V,co,cv,rfl,u1,u2,m1,m2,bP,_,s0,s1⟩:=Et (sk 1 29 v1 rfl rfl) h1;clear hA0 RF;refine (Ko e g x t pp _ c pq _ c' ss ns (ae rfl) (ae rfl) K S F E G po _ co pv _ cv P V (ae rfl) (ae rfl) W (ae ⟨r1,r2,u1,u2,Ce hsh,XB (parts hL).1,er hL⟩) l1 l2 m1 m2 (ae k1) (ae k2) (ae bP) (ae ⟨s0,s1⟩) (ae ⟨g0.1,x0.1⟩)).mono fun r W' ⟨he,bel⟩=>?_;subst he;exact ⟨_,rfl,_,_,_,[],_,_,hW',trodAll_mk1 (shut_bool Tryz.underlying4 _),(trodAll_cons_mk (Below.trod laidOut (by kernel_rfl) (of_decide_eq_true (by kernel_rfl)) k0 bel lt0) (trodAll_cons_mk (Below.trod laidOut (by kernel_rfl) (of_decide_eq_true (by kernel_rfl)) kk1 bel lt1) trodAll_mk0)),(Below.trodVars laidOut bel (by kernel_rfl) hV),bel.frame _,fun h=>by cases h⟩
theorem over:Rows.fnExactApplyRow.holds Tryz.pinned (OpenSpec.ofChange Rows.fnExactApplySpec):=
 OpenClaim.holds_of_wide 3 Tryz.f3 rfl rfl rfl rfl rfl rfl rfl ⟨rfl,rfl,rfl,rfl,rfl⟩ rfl rfl rfl rfl rfl (by kernel_rfl) Tryz.func3 (by kernel_rfl)
  (of_decide_eq_true (by kernel_rfl)) (by unfold Func.isWrapper;first | (rw [if_pos (by decide +kernel)];kernel_rfl) | (rw [if_neg (by decide +kernel)];exact ⟨rfl,rfl⟩))
  (fun os started H enc _=>lifted os started H enc)
end apRow
end Go.Proofs.YtmfjiolopcbcmaaGreatDoor
