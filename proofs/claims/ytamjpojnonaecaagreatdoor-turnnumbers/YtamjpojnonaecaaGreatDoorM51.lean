import Derived.Test.YtamjpojnonaecaaGreatDoorM48
namespace Go.Proofs.YtamjpojnonaecaaGreatDoor
theorem okF_9 : (List.range 128).all (fun i => okF (1152 + i)) = true := by decide +kernel
end Go.Proofs.YtamjpojnonaecaaGreatDoor
namespace Go.Proofs.YtamjpojnonaecaaGreatDoor
theorem okF_a : (List.range 128).all (fun i => okF (1280 + i)) = true := by decide +kernel
end Go.Proofs.YtamjpojnonaecaaGreatDoor
namespace Go.Proofs.YtamjpojnonaecaaGreatDoor
theorem okF_b : (List.range 128).all (fun i => okF (1408 + i)) = true := by decide +kernel
end Go.Proofs.YtamjpojnonaecaaGreatDoor
namespace Go.Proofs.YtamjpojnonaecaaGreatDoor
theorem okF_c : (List.range 128).all (fun i => okF (1536 + i)) = true := by decide +kernel
end Go.Proofs.YtamjpojnonaecaaGreatDoor
