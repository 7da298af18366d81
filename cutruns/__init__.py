"""Cut runs: whether moments of threads with locks can come one behind another."""
