"""Jobs and tools: which tools are worth having for the jobs there are."""
