"""The tests of gunclocks, run by .ci/run."""
