"""The shortest order of a block of instructions."""
